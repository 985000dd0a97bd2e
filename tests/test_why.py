"""Promise 5: sl_why, the shortest way."""

import unittest

from tests.helper import MOST, add, asked, births_in_a_row, flat_start, link_start, linked, start, told, why

# A ring of six: each is one change apart from the one before and the one behind it, and from no other.
RING = ("ACF", "ADF", "ADE", "BDE", "BCE", "BCF")


def numbered(**words):
    """The words in the order of their numbers: numbered(ACE=1, BCE=0) is BCE, then ACE."""
    return sorted(words, key=words.get)


class Refused(unittest.TestCase):
    def test_no_record_at_all(self):
        self.assertEqual(told(start(), why(0, 0), why(0, 1), why(1, 0), why(MOST, MOST))[1:], [[0, -2]] * 4)

    def test_one_is_not_there(self):
        away = (2, 255, 256, 2 ** 32, 2 ** 32 + 1, MOST - 1, MOST)
        calls = [why(*both) for i in (0, 1) for j in away for both in ((i, j), (j, i))]
        self.assertEqual(asked(linked("ANN", "ANN"), *calls), [-2] * len(calls))

    def test_neither_is_there(self):
        self.assertEqual(asked(linked("ANN"), why(1, 1), why(1, 2), why(256, 256), why(MOST, MOST)), [-2] * 4)

    def test_behind_256(self):
        opening = [flat_start(100), *[add()] * 256]
        self.assertEqual(asked(opening, why(255, 256), why(256, 255), why(256, 256), why(0, 255)),
                         [-2, -2, -2, [0, 255]])

    def test_not_hanging_together(self):
        self.assertEqual(told(*linked("ANN", "BORIS"), why(0, 1), why(1, 0))[3:], [[0, -11]] * 2)

    def test_perhaps_is_not_enough(self):
        opening = linked({"first": "ANN", "last": "LEE"}, {"first": "BORIS", "last": "LEE"})
        self.assertEqual(asked(opening, why(0, 1), why(1, 0)), [-11, -11])

    def test_surely_differ(self):
        opening = linked({"first": "ANN", "number": 1}, {"first": "ANN", "number": 2})
        self.assertEqual(asked(opening, why(0, 1), why(1, 0)), [-11, -11])

    def test_torn(self):
        opening = linked({"first": "ACE", "number": 1}, "BCE", {"first": "BDE", "number": 2}, "BDF")
        calls = [why(i, j) for i in range(4) for j in range(4) if i != j]
        self.assertEqual(asked(opening, *calls), [-11] * 12)

    def test_torn_beside_one_that_is_not(self):
        opening = linked("ZOE", {"first": "ACE", "number": 1}, "BCE", {"first": "BDE", "number": 2}, "ZOE")
        self.assertEqual(asked(opening, why(0, 4), why(4, 0), why(0, 1), why(1, 2), why(3, 4)),
                         [[0, 4], [4, 0], -11, -11, -11])

    def test_torn_later(self):
        opening = linked({"first": "ACE", "number": 1}, "BCE")
        given = told(*opening, why(0, 1), add("BDE", number=2), why(0, 1), why(1, 2))
        self.assertEqual(given[3:], [[2, 2, 0, 1], [0, 2], [0, -11], [0, -11]])

    def test_changes_nothing(self):
        given = told(*linked("ACE", "BDE"), why(0, 1), why(0, 2), add("BCE"), why(0, 1), why(0, 3), why(2, 0))
        self.assertEqual(given[3:], [[0, -11], [0, -2], [0, 2], [2, 3, 0, 2, 1], [0, -2], [2, 2, 2, 0]])

    def test_started_again(self):
        opening = [*linked("ANN", "ANN"), link_start(), add("ANN")]
        self.assertEqual(asked(opening, why(0, 1), why(1, 1), why(0, 0)), [-2, -2, [0]])


class OneIsTheOther(unittest.TestCase):
    def test_by_itself_and_in_a_person(self):
        self.assertEqual(told(*linked("ANN"), why(0, 0))[2:], [[2, 1, 0]])
        self.assertEqual(asked(linked("ANN", "BORIS", "ANN"), why(0, 0), why(1, 1), why(2, 2)), [[0], [1], [2]])

    def test_in_what_is_torn(self):
        opening = linked({"first": "ACE", "number": 1}, "BCE", {"first": "BDE", "number": 2})
        self.assertEqual(asked(opening, why(0, 0), why(1, 1), why(2, 2)), [[0], [1], [2]])


class Ways(unittest.TestCase):
    def check(self, firsts, *ways):
        given = asked(linked(*firsts), *[why(way[0], way[-1]) for way in ways])
        self.assertEqual(given, [list(way) for way in ways])

    def test_two_told_the_same(self):
        self.assertEqual(told(*linked("ANN", "ANNE"), why(0, 1), why(1, 0))[3:], [[2, 2, 0, 1], [2, 2, 1, 0]])

    def test_all_told_the_same(self):
        self.check(["ANN"] * 4, *[(i, j) for i in range(4) for j in range(4) if i != j])

    def test_longer_ones(self):
        self.check(["ACE", "BCE", "BDE", "BDF"], (0, 1, 2, 3), (3, 2, 1, 0), (0, 1, 2), (2, 1, 0), (1, 2, 3), (3, 2))
        self.check(numbered(ACE=2, BCE=0, BDE=3, BDF=1), (2, 0, 3, 1), (1, 3, 0, 2), (2, 0), (1, 3, 0))

    def test_told_the_same_is_the_way_however_the_others_lie(self):
        self.check(["BCE", "ACE", "BDE", "ADE"], (1, 3), (3, 1), (0, 2), (2, 0))

    def test_perhaps_is_no_step(self):
        firsts = [{"first": "ACE", "last": "LEE"}, "BCE", {"first": "BDE", "last": "LEE"}]
        self.check(firsts, (0, 1, 2), (2, 1, 0))

    def test_a_short_and_a_long_one(self):
        self.check(RING, (0, 1, 2), (2, 1, 0), (0, 5, 4), (4, 5, 0), (1, 0, 5), (5, 0, 1), (3, 4, 5), (5, 4, 3))
        self.check(numbered(ACF=0, ADF=5, ADE=4, BDE=1, BCE=2, BCF=3), (0, 5, 4), (4, 5, 0), (5, 0, 3), (3, 0, 5))

    def test_differing_at_the_only_place(self):
        self.check(numbered(ACE=0, BCE=1, ADE=2, BDE=3), (0, 1, 3), (3, 1, 0), (1, 0, 2), (2, 0, 1))
        self.check(numbered(ACE=3, BCE=2, ADE=1, BDE=0), (3, 1, 0), (0, 1, 3), (2, 0, 1), (1, 0, 2))

    def test_differing_at_the_first_place(self):
        # A square, with a way behind it: BDE, BDF, BDFX.
        self.check(numbered(ACE=5, BCE=4, ADE=1, BDE=2, BDF=3, BDFX=0), (5, 1, 2, 3, 0))
        self.check(numbered(ACE=5, BCE=1, ADE=4, BDE=2, BDF=3, BDFX=0), (5, 1, 2, 3, 0))
        self.check(numbered(ACE=0, BCE=4, ADE=1, BDE=2, BDF=3, BDFX=5), (0, 1, 2, 3, 5))

    def test_differing_at_a_middle_place(self):
        # A square between two ways: ACF ahead of it, BDEX behind it.
        self.check(numbered(ACF=0, ACE=1, BCE=3, ADE=2, BDE=4, BDEX=5), (0, 1, 2, 4, 5), (5, 4, 2, 1, 0))
        self.check(numbered(ACF=0, ACE=1, BCE=2, ADE=3, BDE=4, BDEX=5), (0, 1, 2, 4, 5), (5, 4, 2, 1, 0))
        self.check(numbered(ACF=5, ACE=4, BCE=3, ADE=2, BDE=1, BDEX=0), (5, 4, 2, 1, 0), (0, 1, 2, 4, 5))

    def test_differing_at_the_last_place_but_one(self):
        self.check(numbered(ACF=0, ACE=1, BCE=3, ADE=2, BDE=4), (0, 1, 2, 4))
        self.check(numbered(ACF=0, ACE=1, BCE=2, ADE=3, BDE=4), (0, 1, 2, 4))
        self.check(numbered(ACF=4, ACE=1, BCE=3, ADE=2, BDE=0), (4, 1, 2, 0))

    def test_the_first_place_goes_ahead_of_those_behind_it(self):
        # Each way has the least number at one of the two places between.
        self.check(numbered(ACF=0, ADF=2, ADE=4, BDE=3, BCE=1, BCF=5), (0, 2, 4, 3), (3, 1, 5, 0))
        self.check(numbered(ACF=3, ADF=5, ADE=1, BDE=0, BCE=4, BCF=2), (3, 2, 4, 0), (0, 1, 5, 3))

    def test_six_shortest_ones(self):
        cube = numbered(ACE=0, BCE=5, ADE=3, ACF=2, BDE=1, BCF=6, ADF=4, BDF=7)
        self.check(cube, (0, 2, 4, 7), (7, 1, 3, 0))
        cube = numbered(ACE=7, BCE=1, ADE=2, ACF=3, BDE=6, BCF=5, ADF=4, BDF=0)
        self.check(cube, (7, 1, 5, 0), (0, 4, 2, 7))

    def test_a_lesser_number_that_leads_away(self):
        # 0 and 1 hang on the beginning and on what lies between, but are on no shortest way.
        self.check(numbered(ACE=2, BCE=4, BDE=3, BDF=5, ACEX=0, BCEX=1), (2, 4, 3, 5), (5, 3, 4, 2))

    def test_a_record_that_comes_later_shortens(self):
        firsts = ["ACF", "ADF", "ADE", "BDE", "BCE"]
        given = told(*linked(*firsts), why(0, 4), add("BCF"), why(0, 4), why(4, 0), why(5, 2))[6:]
        self.assertEqual(given[:2], [[2, 5, 0, 1, 2, 3, 4], [0, 5]])
        self.assertEqual(given[2:], [[2, 3, 0, 5, 4], [2, 3, 4, 5, 0], [2, 4, 5, 0, 1, 2]])

    def test_asked_for_again_and_the_other_way(self):
        self.check(RING, (0, 1, 2), (0, 1, 2), (2, 1, 0), (1, 2), (0, 1, 2), (5, 0, 1, 2), (4, 3, 2))

    def test_256_in_a_row(self):
        dates = [{"birth": birth} for birth in births_in_a_row(256)]
        there = list(range(256))
        self.check(dates, there, there[::-1], there[100:], there[:100:-1], there[3:200], (7, 8))
        self.check(dates[::-1], there, there[::-1])

    def test_256_in_a_row_that_came_mixed(self):
        dates = [{"birth": birth} for birth in births_in_a_row(256)]
        # The row's place k came as number 101 * k, round 256.
        came = [None] * 256
        for k in range(256):
            came[101 * k % 256] = dates[k]
        way = [101 * k % 256 for k in range(256)]
        self.check(came, way, way[::-1], way[20:90])
