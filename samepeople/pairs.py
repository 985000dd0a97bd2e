"""Two records compared: their levels, their sum, and what is told of them."""

from samepeople.names import likeness
from samepeople.records import NOT_KNOWN

NOT_SAME = 0
PERHAPS_SAME = 1
SAME = 2
SURELY_DIFFER = 3

NUMBER_LEVEL = 4


def birth_level(a, b):
    if a == NOT_KNOWN or b == NOT_KNOWN:
        return 0
    alike = len([1 for part_a, part_b in zip(a, b) if part_a == part_b])
    if alike == 3:
        return 3
    changed_about = a[0] == b[0] and a[1] == b[2] and a[2] == b[1]
    if alike == 2 or changed_about:
        return 2
    return 1


# Places and numbers have their levels alike.
def number_level(a, b):
    if a == 0 or b == 0:
        return 0
    if a == b:
        return 2
    return 1


# The order is that of the rules' weights, and that in which levels are told.
def pair_levels(a, b):
    return [
        likeness(a.first, b.first),
        likeness(a.last, b.last),
        birth_level(a.birth, b.birth),
        number_level(a.place, b.place),
        number_level(a.number, b.number),
    ]


def pair_sum(rules, levels):
    return sum([row[level] for row, level in zip(rules.weights, levels)])


def pair_told(rules, levels, total):
    if levels[NUMBER_LEVEL] == 1 or total <= rules.never:
        return SURELY_DIFFER
    if total >= rules.same:
        return SAME
    if total >= rules.perhaps:
        return PERHAPS_SAME
    return NOT_SAME
