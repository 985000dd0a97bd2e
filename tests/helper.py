"""Calls written in numbers, answers taken apart, and plain models of names and persons to hold the program against."""

from itertools import combinations, groupby
from string import ascii_uppercase

from samepeople.desk import answers

MOST = 2 ** 63 - 1

FIRST = (10, -20, 30, 40, 50, 60)
LAST = (1, -2, 3, 4, 5, 6)
BIRTH = (0, -7, 70, 100)
PLACE = (0, -300, 300)
NUMBER = (0, -900, 900)


def row(numbers):
    return [len(numbers), *numbers]


def name(text):
    return [ord(letter) for letter in text] + [0] * (16 - len(text))


def start(same=100, perhaps=50, never=-50, first=FIRST, last=LAST, birth=BIRTH, place=PLACE, number=NUMBER):
    return [0, same, perhaps, never, *row(first), *row(last), *row(birth), *row(place), *row(number)]


def flat_start(total, **bounds):
    """Rules by which two records that know nothing of one another have this sum."""
    zeros = (0, 0, 0)
    return start(first=(0,) * 6, last=(0,) * 6, birth=(total, 0, 0, 0), place=zeros, number=zeros, **bounds)


def add(first="", last="", birth=(0, 0, 0), place=0, number=0, roll=0, zero=(0, 0, 0)):
    first_row = name(first) if isinstance(first, str) else first
    last_row = name(last) if isinstance(last, str) else last
    return [1, number, place, *birth, roll, *row(first_row), *row(last_row), *row(zero)]


def pair(i, j):
    return [2, i, j]


def group(i):
    return [3, i]


def why(i, j):
    return [4, i, j]


def count():
    return [5]


def link_start(same=100, perhaps=50):
    """Rules by which first names that are alike or one change apart are the same, and like last names perhaps.

    Places that differ surely differ by the sum, numbers that differ as they always do.
    """
    return start(
        same=same, perhaps=perhaps, never=-50, first=(0, 0, 0, 0, 100, 100), last=(0, 0, 0, 0, 0, 50),
        birth=(0, 0, 100, 100), place=(0, -300, 0), number=(0, 0, 0),
    )


def linked(*firsts):
    """Those rules, and a record for each: a first name, or a dict of what add takes."""
    return [link_start(), *[add(first) if isinstance(first, str) else add(**first) for first in firsts]]


def births_in_a_row(size):
    """Dates of which each has two parts in common with the one before, and no other two dates have."""
    days = []
    for month in range(1, 13):
        turned = range(1, 32) if month % 2 else range(31, 0, -1)
        days += [(month, day) for day in turned]
    return [((k + 1) // 2 + 1, *days[k // 2]) for k in range(size)]


def asked(opening, *calls):
    """What is answered to the calls behind an opening: a refusal's number, or a row without its form and count."""
    shown = []
    for answer in told(*opening, *calls)[len(opening):]:
        if answer[0] == 0 and len(answer) == 2 and answer[1] < 0:
            shown.append(answer[1])
        elif answer[0] == 2 and len(answer) == answer[1] + 2:
            shown.append(answer[2:])
        else:
            raise ValueError("neither a refusal nor a row")
    return shown


def line(calls):
    return [number for call in calls for number in call]


def told(*calls):
    """The answer of each call, as a list with the form first."""
    given = answers(line(calls))
    apart = []
    while given:
        size = given[0]
        if len(given) < size + 1:
            raise ValueError("fewer numbers than told")
        apart.append(given[1:size + 1])
        given = given[size + 1:]
    if len(apart) != len(calls):
        raise ValueError("not one answer for each call")
    return apart


def pair_told(a, b, rules=None):
    """What is told of two records, given as the arguments of add: told, sum, then the five levels."""
    there, back = told(rules or start(), add(**a), add(**b), pair(0, 1), pair(1, 0))[3:]
    if there != back:
        raise ValueError("not as like either way round")
    if there[0] != 1 or len(there) != 8:
        raise ValueError("not of form 1")
    return there[1:]


def levels(a, b):
    return pair_told(a, b)[2:]


CLASS_OF = {
    letter: str(number)
    for number, group in enumerate(("BFPV", "CGJKQSXZ", "DT", "L", "MN", "R"), start=1)
    for letter in group
}


def model_changed(text):
    """All that comes of a text by one change."""
    places = range(len(text))
    other = {text[:k] + c + text[k + 1:] for k in places for c in ascii_uppercase if c != text[k]}
    put_in = {text[:k] + c + text[k:] for k in range(len(text) + 1) for c in ascii_uppercase}
    left_out = {text[:k] + text[k + 1:] for k in places}
    about = {
        text[:k] + text[k + 1] + text[k] + text[k + 2:]
        for k in range(len(text) - 1) if text[k] != text[k + 1]
    }
    return other | put_in | left_out | about


def model_sound(text):
    classes = "".join(CLASS_OF.get(letter, "") for letter in text[1:])
    return text[0] + "".join(letter_class for letter_class, run in groupby(classes))[:3]


def model_like(a, b):
    if not a or not b:
        return 0
    if a == b:
        return 5
    if b in model_changed(a):
        return 4
    if min(len(a), len(b)) >= 3 and (a.startswith(b) or b.startswith(a)):
        return 3
    return 2 if model_sound(a) == model_sound(b) else 1


def told_matrix(opening):
    """What sl_pair tells of each two records of an sl_start and its adds; None of one with itself."""
    places = range(len(opening) - 1)
    both = [(i, j) for i in places for j in places if i != j]
    given = told(*opening, *[pair(i, j) for i, j in both])[len(opening):]
    matrix = [[None for j in places] for i in places]
    for (i, j), answer in zip(both, given):
        matrix[i][j] = answer[1]
    return matrix


def model_part(matrix, i):
    part = {i}
    while True:
        wider = part | {k for k in range(len(matrix)) if any(matrix[k][j] == 2 for j in part)}
        if wider == part:
            return part
        part = wider


def model_torn(matrix, i):
    return any(matrix[a][b] == 3 for a, b in combinations(model_part(matrix, i), 2))


def model_person(matrix, i):
    return {i} if model_torn(matrix, i) else model_part(matrix, i)


def model_group(matrix, i):
    person = model_person(matrix, i)
    return [min(person), len(person), int(model_torn(matrix, i))]


def model_why(matrix, i, j):
    """All ways grow by a step at a time, until one is there: the least of those that are."""
    if j not in model_person(matrix, i):
        return -11
    ways = [[i]]
    while not any(way[-1] == j for way in ways):
        ways = [way + [k] for way in ways for k in range(len(matrix)) if matrix[way[-1]][k] == 2 and k not in way]
    return min(way for way in ways if way[-1] == j)


def model_count(matrix):
    places = range(len(matrix))
    persons = {frozenset(model_person(matrix, i)) for i in places}
    torn = {frozenset(model_part(matrix, i)) for i in places if model_torn(matrix, i)}
    perhaps = [1 for i, j in combinations(places, 2) if matrix[i][j] == 1 and j not in model_person(matrix, i)]
    return [len(persons), len(torn), len(perhaps)]
