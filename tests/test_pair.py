"""Promise 3: sl_pair, and the levels of birth, place and number."""

import unittest

from tests.helper import MOST, add, flat_start, levels, pair, pair_told, start, told

NOT_THERE = [0, -2]


class Refused(unittest.TestCase):
    def test_one_is_the_other(self):
        calls = [pair(i, i) for i in (0, 1, 2, 255, 256, MOST)]
        self.assertEqual(told(start(), add("ANN"), add("ANN"), *calls)[3:], [NOT_THERE] * 6)

    def test_one_is_not_there(self):
        away = (2, 3, 255, 256, 2 ** 31, 2 ** 32, 2 ** 32 + 1, 2 ** 63 - 2, MOST)
        calls = [pair(*both) for i in (0, 1) for j in away for both in ((i, j), (j, i))]
        self.assertEqual(told(start(), add("ANN"), add("ANN"), *calls)[3:], [NOT_THERE] * len(calls))

    def test_neither_is_there(self):
        self.assertEqual(told(start(), pair(0, 1), pair(1, 0), pair(MOST, MOST - 1))[1:], [NOT_THERE] * 3)

    def test_changes_nothing(self):
        given = told(start(), add("ANN"), pair(0, 1), pair(0, 0), add("ANN"), pair(0, 1))
        self.assertEqual(given[2:], [NOT_THERE, NOT_THERE, [0, 1], [1, 1, 61, 5, 0, 0, 0, 0]])


class Told(unittest.TestCase):
    def check(self, bounds, sums):
        for total, answer in sums.items():
            told_of = pair_told({}, {}, flat_start(total, **bounds))
            self.assertEqual(told_of, [answer, total, 0, 0, 0, 0, 0], bounds)

    def test_at_each_bound_and_beside_it(self):
        bounds = {"same": 100, "perhaps": 50, "never": -50}
        self.check(bounds, {-1000: 3, -51: 3, -50: 3, -49: 0, 0: 0, 49: 0})
        self.check(bounds, {50: 1, 51: 1, 99: 1, 100: 2, 101: 2, 1000: 2})

    def test_perhaps_as_same(self):
        self.check({"same": 10, "perhaps": 10, "never": 0}, {-1: 3, 0: 3, 1: 0, 9: 0, 10: 2, 11: 2})

    def test_never_just_below_perhaps(self):
        self.check({"same": 12, "perhaps": 10, "never": 9}, {8: 3, 9: 3, 10: 1, 11: 1, 12: 2, 13: 2})

    def test_all_three_side_by_side(self):
        self.check({"same": 0, "perhaps": 0, "never": -1}, {-2: 3, -1: 3, 0: 2, 1: 2})

    def test_weights_of_0(self):
        known = {"first": "ANN", "last": "LEE", "birth": (1980, 1, 2), "place": 3, "number": 4}
        for same, perhaps, never, answer in ((0, 0, -1, 2), (1, 0, -1, 1), (1, 1, -1, 0), (1, 1, 0, 3)):
            rules = flat_start(0, same=same, perhaps=perhaps, never=never)
            self.assertEqual(pair_told(known, known, rules), [answer, 0, 5, 5, 3, 2, 2])
            self.assertEqual(pair_told({}, {}, rules), [answer, 0, 0, 0, 0, 0, 0])

    def test_bounds_far_away(self):
        least, most = -2 ** 31, 2 ** 31 - 1
        self.check({"same": most, "perhaps": most, "never": least}, {-1000: 0, 1000: 0})
        self.check({"same": most, "perhaps": most, "never": most - 1}, {-1000: 3, 1000: 3})
        self.check({"same": least + 1, "perhaps": least + 1, "never": least}, {-1000: 2, 1000: 2})

    def test_numbers_that_differ_with_a_high_sum(self):
        rules = start(number=(0, 1000, 1000))
        a = {"first": "ANN", "last": "LEE", "birth": (1980, 1, 2), "place": 3, "number": 4}
        self.assertEqual(pair_told(a, dict(a, number=5), rules), [3, 1466, 5, 5, 3, 2, 1])
        self.assertEqual(pair_told(a, dict(a, number=4), rules), [2, 1466, 5, 5, 3, 2, 2])
        self.assertEqual(pair_told(a, dict(a, number=0), rules), [2, 466, 5, 5, 3, 2, 0])

    def test_numbers_that_differ_with_any_sum(self):
        for total in (-1000, -50, 0, 50, 100, 1000):
            rules = flat_start(total)
            self.assertEqual(pair_told({"number": 1}, {"number": 2}, rules), [3, total, 0, 0, 0, 0, 1])

    def test_another_level_of_1_is_not_enough(self):
        a = {"first": "ANN", "last": "LEE", "birth": (1980, 1, 2), "place": 3, "number": 4}
        b = {"first": "BORIS", "last": "KOWALSKI", "birth": (1970, 3, 4), "place": 9, "number": 4}
        self.assertEqual(pair_told(a, b), [2, -20 - 2 - 7 - 300 + 900, 1, 1, 1, 1, 2])

    def test_the_same_record_twice(self):
        a = {"first": "ANN", "last": "LEE", "birth": (1980, 1, 2), "place": 3, "number": 4}
        self.assertEqual(pair_told(a, a), [2, 60 + 6 + 100 + 300 + 900, 5, 5, 3, 2, 2])

    def test_all_unknown(self):
        self.assertEqual(pair_told({}, {}), [0, 11, 0, 0, 0, 0, 0])

    def test_roll_is_of_no_matter(self):
        a = {"first": "ANN", "number": 4}
        for roll in (0, 1, 2 ** 32 - 1):
            self.assertEqual(pair_told(dict(a, roll=1), dict(a, roll=roll)), [2, 961, 5, 0, 0, 0, 2])

    def test_sums_at_their_ends(self):
        a = {"first": "ANN", "last": "LEE", "birth": (1980, 1, 2), "place": 3, "number": 4}
        for weight, answer in ((1000, 2), (-1000, 3)):
            six, four, three = (weight,) * 6, (weight,) * 4, (weight,) * 3
            rules = start(first=six, last=six, birth=four, place=three, number=three)
            self.assertEqual(pair_told(a, a, rules), [answer, 5 * weight, 5, 5, 3, 2, 2])


class BirthLevel(unittest.TestCase):
    def check(self, a, others, level):
        for b in others:
            self.assertEqual(levels({"birth": a}, {"birth": b}), [0, 0, level, 0, 0], (a, b))

    def test_one_is_not_known(self):
        self.check((0, 0, 0), [(0, 0, 0), (1980, 3, 7), (1, 1, 1)], 0)

    def test_all_alike(self):
        for birth in ((1980, 3, 7), (1980, 5, 5), (1, 1, 1), (9999, 12, 31)):
            self.check(birth, [birth], 3)

    def test_just_two_alike(self):
        self.check((1980, 3, 7), [(1981, 3, 7), (1980, 4, 7), (1980, 3, 8), (3, 3, 7), (1980, 7, 7), (1980, 3, 3)], 2)

    def test_two_alike_where_month_is_day(self):
        self.check((1980, 5, 5), [(1981, 5, 5), (1980, 5, 6), (1980, 6, 5)], 2)

    def test_changed_about(self):
        self.check((1980, 3, 7), [(1980, 7, 3)], 2)
        self.check((1980, 12, 1), [(1980, 1, 12)], 2)

    def test_changed_about_in_another_year(self):
        self.check((1980, 3, 7), [(1981, 7, 3)], 1)

    def test_changed_about_by_half(self):
        self.check((1980, 3, 7), [(1980, 7, 4), (1980, 8, 3)], 1)

    def test_changed_about_and_alike(self):
        self.check((1980, 5, 5), [(1980, 5, 5)], 3)
        self.check((1980, 5, 5), [(1981, 5, 5)], 2)

    def test_year_changed_about_with_another(self):
        self.check((3, 7, 11), [(7, 3, 12), (11, 8, 3)], 1)
        self.check((3, 7, 11), [(7, 3, 11), (11, 7, 3)], 1)

    def test_just_one_alike_or_none(self):
        self.check((1980, 3, 7), [(1980, 4, 8), (1981, 3, 8), (1981, 4, 7), (1981, 4, 8)], 1)


class PlaceAndNumberLevel(unittest.TestCase):
    def test_place(self):
        most = 2 ** 32 - 1
        for a, b, level in ((0, 0, 0), (0, 1, 0), (most, 0, 0), (1, 1, 2), (most, most, 2), (1, 2, 1), (most, 1, 1)):
            self.assertEqual(levels({"place": a}, {"place": b}), [0, 0, 0, level, 0], (a, b))

    def test_number(self):
        for a, b, level in (
            (0, 0, 0), (0, 1, 0), (MOST, 0, 0), (1, 1, 2), (MOST, MOST, 2), (1, 2, 1), (MOST, MOST - 1, 1),
            (1, 2 ** 32 + 1, 1),
        ):
            self.assertEqual(levels({"number": a}, {"number": b}), [0, 0, 0, 0, level], (a, b))

    def test_place_and_number_are_not_mixed(self):
        self.assertEqual(levels({"place": 5, "number": 6}, {"place": 6, "number": 6}), [0, 0, 0, 1, 2])
        self.assertEqual(levels({"place": 5, "number": 6}, {"place": 5, "number": 5}), [0, 0, 0, 2, 1])


class Sum(unittest.TestCase):
    FIRST = {0: ("", "ANN"), 1: ("ANN", "BORIS"), 2: ("ROBERT", "RUPARDE"), 3: ("ANN", "ANNABEL"),
             4: ("ANN", "ANNA"), 5: ("ANN", "ANN")}
    BIRTH = {0: ((0, 0, 0), (1980, 1, 2)), 1: ((1980, 1, 2), (1990, 3, 4)), 2: ((1980, 1, 2), (1980, 2, 1)),
             3: ((1980, 1, 2), (1980, 1, 2))}
    COUNTED = {0: (0, 8), 1: (8, 9), 2: (9, 9)}

    def check(self, place, part, both_of, weights):
        for level, both in both_of.items():
            given = pair_told({part: both[0]}, {part: both[1]}, start(never=-1000, **{part: weights}))
            levels_told = [0] * 5
            levels_told[place] = level
            self.assertEqual(given[2:], levels_told)
            unknown = 10 + 1 - (10 if part == "first" else 0) - (1 if part == "last" else 0)
            self.assertEqual(given[1], unknown + weights[level])

    def test_each_weight_at_its_level(self):
        self.check(0, "first", self.FIRST, (3, 5, 7, 11, 13, 17))
        self.check(1, "last", self.FIRST, (-3, -5, -7, -11, -13, -17))
        self.check(2, "birth", self.BIRTH, (19, -23, 29, 31))
        self.check(3, "place", self.COUNTED, (37, -41, 43))
        self.check(4, "number", self.COUNTED, (-47, 53, 59))
