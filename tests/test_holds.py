"""What holds over the whole program, a to d, on records that are drawn by a fixed seed."""

import unittest
from itertools import combinations, permutations
from random import Random

from tests.helper import (
    add, asked, count, group, link_start, linked, model_count, model_group, model_part, model_why, pair, start, told,
    told_matrix, why,
)

WORDS = [a + b + c for a in "AB" for b in "CD" for c in "EF"]
NAMES = ("", "ANN", "ANNE", "ANNA", "HANNA", "ANNABEL", "BORIS", "BORIA", "ROBERT", "RUPERT")
BIRTHS = ((0, 0, 0), (1980, 3, 7), (1980, 7, 3), (1980, 3, 8), (1981, 3, 8), (1990, 1, 1))


def drawn_links(source):
    """Rules and records by which long ways, torn parts and pairs that are perhaps the same come often."""
    size = source.randint(1, 9)
    return [link_start(), *[
        add(source.choice(WORDS), source.choice(("", "LEE", "KIM")), place=source.choice((0, 0, 0, 0, 0, 0, 1, 2)),
            number=source.choice((0, 0, 0, 0, 0, 0, 0, 1, 2)))
        for k in range(size)
    ]]


def drawn_rules(source):
    """Rules and records of any kind."""
    def weights(size):
        return tuple(source.randint(-60, 60) for k in range(size))

    never, perhaps, same = sorted(source.sample(range(-80, 80), 3))
    rules = start(
        same=source.choice((same, perhaps)), perhaps=perhaps, never=never, first=weights(6), last=weights(6),
        birth=weights(4), place=weights(3), number=weights(3),
    )
    return [rules, *[
        add(source.choice(NAMES), source.choice(NAMES), source.choice(BIRTHS), source.choice((0, 1, 2)),
            source.choice((0, 0, 0, 1, 2)))
        for k in range(source.randint(1, 8))
    ]]


def worlds(seed, size):
    source = Random(seed)
    for k in range(size):
        yield drawn_links(source)
        yield drawn_rules(source)


def all_groups(opening):
    return asked(opening, *[group(i) for i in range(len(opening) - 1)])


def persons_of(opening):
    """Each person as what was added for it, so that numbers are of no matter, and whether it's torn."""
    found = {}
    for call, (least, size, torn) in zip(opening[1:], all_groups(opening)):
        found.setdefault((least, size, torn), []).append(call)
    return sorted((sorted(calls), size, torn) for (least, size, torn), calls in found.items())


class AgainstAModel(unittest.TestCase):
    def test_groups_ways_and_counts(self):
        seen = {"torn": 0, "long": 0, "perhaps": 0}
        for opening in worlds(1, 120):
            places = range(len(opening) - 1)
            matrix = told_matrix(opening)
            both = [(i, j) for i in places for j in places]
            given = asked(opening, *[group(i) for i in places], *[why(i, j) for i, j in both], count())
            model = [model_group(matrix, i) for i in places] + [model_why(matrix, i, j) for i, j in both]
            model.append(model_count(matrix))
            self.assertEqual(given, model, opening)
            seen["torn"] += model[-1][1] > 0
            seen["perhaps"] += model[-1][2] > 0
            seen["long"] += any(isinstance(way, list) and len(way) > 3 for way in model[len(places):-1])
        # What was drawn is worth nothing if hardly any of it comes.
        self.assertGreater(min(seen.values()), 20, seen)


class NeverTwoThatSurelyDiffer(unittest.TestCase):
    def test_in_one_person(self):
        for opening in worlds(2, 100):
            matrix = told_matrix(opening)
            given = all_groups(opening)
            for i, j in combinations(range(len(matrix)), 2):
                if matrix[i][j] == 3:
                    self.assertNotEqual(given[i][0], given[j][0])
                    self.assertEqual(asked(opening, why(i, j)), [-11])

    def test_what_is_told_the_same_is_one_person_or_torn(self):
        for opening in worlds(3, 100):
            matrix = told_matrix(opening)
            given = all_groups(opening)
            for i, j in combinations(range(len(matrix)), 2):
                if matrix[i][j] == 2:
                    self.assertTrue(given[i] == given[j] and given[i][2] == 0 or (given[i][2], given[j][2]) == (1, 1))


class InWhicheverOrder(unittest.TestCase):
    def test_all_orders_of_a_few(self):
        firsts = ({"first": "ACE", "number": 1}, "BCE", {"first": "BDE", "number": 2}, "ZOE", "ZO")
        opening = linked(*firsts)
        for order in permutations(opening[1:]):
            mixed = [opening[0], *order]
            self.assertEqual(persons_of(mixed), persons_of(opening))
            self.assertEqual(asked(mixed, count()), [[4, 1, 0]])

    def test_drawn_orders(self):
        source = Random(4)
        for opening in worlds(5, 60):
            persons, counts = persons_of(opening), asked(opening, count())
            for k in range(4):
                mixed = [opening[0], *source.sample(opening[1:], len(opening) - 1)]
                self.assertEqual(persons_of(mixed), persons)
                self.assertEqual(asked(mixed, count()), counts)

    def test_many_records(self):
        source = Random(6)
        adds = [
            add(last=source.choice(("", "LEE")), number=source.choice((0, 0, 0, k)),
                birth=(source.randint(1, 100), source.randint(1, 12), source.randint(1, 20)))
            for k in range(1, 121)
        ]
        opening = [link_start(), *adds]
        persons, counts = persons_of(opening), asked(opening, count())
        # Some are joined, and some torn.
        self.assertTrue(counts[0][0] < 110 and counts[0][1] > 1, counts)
        for k in range(3):
            mixed = [opening[0], *source.sample(adds, len(adds))]
            self.assertEqual(persons_of(mixed), persons)
            self.assertEqual(asked(mixed, count()), counts)


class Explained(unittest.TestCase):
    def steps(self, matrix, i):
        """How far each record is, by widening what's reached."""
        away, reached, step = {i: 0}, {i}, 0
        while reached:
            step += 1
            reached = {k for j in reached for k in range(len(matrix)) if matrix[j][k] == 2 and k not in away}
            away.update({k: step for k in reached})
        return away

    def test_each_is_told_the_same_as_the_one_before_and_none_is_shorter(self):
        for opening in worlds(7, 100):
            matrix = told_matrix(opening)
            places = range(len(matrix))
            given = all_groups(opening)
            for i in places:
                away = self.steps(matrix, i)
                for j, way in zip(places, asked(opening, *[why(i, j) for j in places])):
                    if given[i][0] != given[j][0]:
                        self.assertEqual(way, -11)
                        continue
                    self.assertEqual((way[0], way[-1], len(way)), (i, j, away[j] + 1))
                    self.assertTrue(all(matrix[a][b] == 2 for a, b in zip(way, way[1:])))


class OneMoreRecord(unittest.TestCase):
    def test_joins_or_tears_and_else_changes_nothing(self):
        joined = torn = 0
        for opening in worlds(8, 150):
            matrix = told_matrix(opening)
            last = len(matrix) - 1
            touched = model_part(matrix, last)
            before, after = all_groups(opening[:-1]), all_groups(opening)
            for i in range(last):
                if i not in touched:
                    self.assertEqual(after[i], before[i])
            if after[last][2] == 0:
                joined += len(touched) > 1
                self.assertEqual([after[i] for i in touched], [[min(touched), len(touched), 0]] * len(touched))
                self.assertEqual([before[i][2] for i in touched if i != last], [0] * (len(touched) - 1))
            else:
                torn += any(before[i][2] == 0 for i in touched if i != last)
                self.assertEqual([after[i] for i in sorted(touched)], [[i, 1, 1] for i in sorted(touched)])
        self.assertGreater(min(joined, torn), 10)

    def test_pairs_stay_as_they_are(self):
        for opening in worlds(9, 40):
            before, after = told_matrix(opening[:-1]), told_matrix(opening)
            self.assertEqual([told_row[:-1] for told_row in after[:-1]], before)

    def test_told_at_once_as_if_all_had_come_before_the_first_was_asked(self):
        for opening in worlds(10, 30):
            calls = [opening[0]]
            for size, call in enumerate(opening[1:], start=1):
                calls += [call, count(), *[group(i) for i in range(size)], *[why(i, size - 1) for i in range(size)]]
            given = told(*calls)
            place = 1
            for size in range(1, len(opening)):
                asked_of = [count(), *[group(i) for i in range(size)], *[why(i, size - 1) for i in range(size)]]
                alone = told(*opening[:size + 1], *asked_of)[size + 1:]
                self.assertEqual(given[place + 1:place + 1 + len(asked_of)], alone)
                place += 1 + len(asked_of)


class RefusedCalls(unittest.TestCase):
    def test_answers_behind_them_are_as_if_they_had_not_come(self):
        refused = (
            start(never=50), start(same=49), link_start(perhaps=101), add("ann"), add("ANN", zero=(0, 0, 1)),
            add("ANN", birth=(0, 1, 1)), pair(0, 0), pair(0, 99), group(99), why(0, 99), why(99, 99),
        )
        source = Random(11)
        for opening in worlds(12, 40):
            places = range(len(opening) - 1)
            calls = [*opening, *[group(i) for i in places], *[why(0, i) for i in places], *[pair(0, i) for i in places],
                     count(), add("ACE"), count(), group(len(places)), why(0, len(places))]
            plain = told(*calls)
            mixed, kept = [calls[0]], [0]
            for call in calls[1:]:
                mixed += source.sample(refused, source.randint(0, 3))
                kept.append(len(mixed))
                mixed.append(call)
            given = told(*mixed)
            self.assertEqual([given[k] for k in kept], plain)
            others = [answer for k, answer in enumerate(given) if k not in kept]
            self.assertTrue(all(answer[0] == 0 and answer[1] in (-2, -22) for answer in others))

    def test_a_257th_record(self):
        opening = [link_start(), *[add("ANN", number=1)] * 255, add("ZOE", "LEE", number=1)]
        calls = [group(0), group(255), group(256), why(0, 255), why(0, 254), count()]
        self.assertEqual(told(*opening, add("ZOE", "LEE", number=2), add("ANN", number=2), *calls)[259:],
                         told(*opening, *calls)[257:])
