"""Promise 6: sl_count."""

import unittest

from tests.helper import add, asked, births_in_a_row, count, flat_start, link_start, linked, start, told

TORN = ({"first": "ANN", "number": 1}, "ANN", {"first": "ANN", "number": 2})


def counted(*firsts):
    return asked(linked(*firsts), count())[0]


class Persons(unittest.TestCase):
    def test_no_record(self):
        self.assertEqual(told(start(), count()), [[0, 0], [2, 3, 0, 0, 0]])

    def test_one_and_several(self):
        self.assertEqual(counted("ANN"), [1, 0, 0])
        self.assertEqual(counted("ANN", "BORIS", "CLARA"), [3, 0, 0])

    def test_joined(self):
        self.assertEqual(counted("ANN", "ANNE"), [1, 0, 0])
        self.assertEqual(counted("ACE", "BCE", "BDE", "BDF"), [1, 0, 0])
        self.assertEqual(counted("ANN", "BORIS", "ANNE", "CLARA", "BORI"), [3, 0, 0])

    def test_as_records_come(self):
        given = told(link_start(), add("ACE"), count(), add("BDE"), count(), add("BCE"), count(), add("ZOE"), count())
        self.assertEqual(given[2::2], [[2, 3, 1, 0, 0], [2, 3, 2, 0, 0], [2, 3, 1, 0, 0], [2, 3, 2, 0, 0]])

    def test_the_same_record_twice(self):
        known = {"first": "ANN", "last": "LEE", "birth": (1980, 3, 7), "place": 4, "number": 5}
        self.assertEqual(counted(known, known), [1, 0, 0])

    def test_numbers_that_differ_and_all_else_alike(self):
        known = {"first": "ANN", "last": "LEE", "birth": (1980, 3, 7), "place": 4}
        self.assertEqual(counted(dict(known, number=5), dict(known, number=6)), [2, 0, 0])

    def test_256(self):
        self.assertEqual(counted(*[{"birth": birth} for birth in births_in_a_row(256)]), [1, 0, 0])
        self.assertEqual(asked([flat_start(0), *[add()] * 256], count()), [[256, 0, 0]])


class TornParts(unittest.TestCase):
    def test_one(self):
        self.assertEqual(counted(*TORN), [3, 1, 0])

    def test_one_however_many_differ_in_it(self):
        self.assertEqual(counted("ANN", *[{"first": "ANN", "number": k} for k in range(1, 6)]), [6, 1, 0])

    def test_several(self):
        other = ({"first": "ZOE", "place": 1}, "ZOE", {"first": "ZOE", "place": 2})
        self.assertEqual(counted(*TORN, *other), [6, 2, 0])
        self.assertEqual(counted(TORN[0], other[2], "MIRIAM", TORN[1], other[1], TORN[2], other[0], "MIRIAM"),
                         [7, 2, 0])

    def test_surely_differing_alone_is_not_torn(self):
        self.assertEqual(counted(TORN[0], TORN[2]), [2, 0, 0])

    def test_two_torn_parts_that_are_joined(self):
        ace = ({"first": "ACE", "number": 1}, "ACE", {"first": "ACE", "number": 2})
        bde = ({"first": "BDE", "number": 3}, "BDE", {"first": "BDE", "number": 4})
        self.assertEqual(counted(*ace, *bde), [6, 2, 0])
        self.assertEqual(counted(*ace, *bde, "BCE"), [7, 1, 0])

    def test_torn_by_one_that_comes(self):
        given = told(*linked(*TORN[:2]), count(), add("ANN", number=2), count())
        self.assertEqual(given[3:], [[2, 3, 1, 0, 0], [0, 2], [2, 3, 3, 1, 0]])


class PerhapsTheSame(unittest.TestCase):
    def test_between_two_persons(self):
        self.assertEqual(counted({"first": "ANN", "last": "LEE"}, {"first": "BORIS", "last": "LEE"}), [2, 0, 1])

    def test_each_pair_once(self):
        annes = [{"first": "ANN", "last": "LEE"}] * 3
        others = [{"first": "BORIS", "last": "LEE"}] * 2
        self.assertEqual(counted(*annes, *others), [2, 0, 6])
        self.assertEqual(counted(others[0], *annes, others[1]), [2, 0, 6])

    def test_within_one_person(self):
        firsts = [{"first": "ACE", "last": "LEE"}, "BCE", {"first": "BDE", "last": "LEE"}]
        self.assertEqual(counted(firsts[0], firsts[2]), [2, 0, 1])
        self.assertEqual(counted(*firsts), [1, 0, 0])
        self.assertEqual(counted(firsts[0], firsts[2], firsts[1]), [1, 0, 0])

    def test_within_and_between(self):
        firsts = [{"first": "ACE", "last": "LEE"}, "BCE", {"first": "BDE", "last": "LEE"}]
        self.assertEqual(counted(*firsts, {"first": "ZOE", "last": "LEE"}), [2, 0, 2])

    def test_within_a_torn_part(self):
        firsts = [{"first": "ACE", "last": "LEE", "number": 1}, "BCE", {"first": "BDE", "last": "LEE"},
                  {"first": "BDE", "number": 2}]
        self.assertEqual(counted(*firsts[:3]), [1, 0, 0])
        self.assertEqual(counted(*firsts), [4, 1, 1])

    def test_between_a_torn_part_and_others(self):
        lees = [dict(first=first, last="LEE", number=number) for first, number in
                (("ANN", 1), ("ANN", 2), ("ANN", 0), ("ZOE", 0), ("MIRIAM", 0))]
        self.assertEqual(counted(*lees), [5, 1, 3 + 3 + 1])

    def test_surely_differing_is_not_perhaps(self):
        lees = [{"first": "ANN", "last": "LEE", "number": 1}, {"first": "BORIS", "last": "LEE", "number": 2}]
        self.assertEqual(counted(*lees), [2, 0, 0])

    def test_told_the_same_in_what_is_torn_is_not_perhaps(self):
        self.assertEqual(counted({"first": "ANN", "last": "LEE", "number": 1}, {"first": "ANN", "last": "LEE"},
                                 {"first": "ANN", "last": "LEE", "number": 2}), [3, 1, 0])

    def test_perhaps_as_same(self):
        adds = [add("ANN", "LEE"), add("BORIS", "LEE"), add("CLARA", "LEE"), add("ZOE")]
        for same, answer in ((51, [4, 0, 3]), (50, [2, 0, 0])):
            self.assertEqual(asked([link_start(same=same, perhaps=50), *adds], count()), [answer])

    def test_all_unknown(self):
        for total, answer in ((-50, [4, 0, 0]), (-49, [4, 0, 0]), (49, [4, 0, 0]), (50, [4, 0, 6]), (99, [4, 0, 6]),
                              (100, [1, 0, 0])):
            self.assertEqual(asked([flat_start(total), *[add()] * 4], count()), [answer], total)

    def test_weights_of_0(self):
        adds = [add("ANN"), add("BOB"), add(), add("ANN"), add(birth=(1980, 3, 7))]
        for same, perhaps, never, answer in ((0, 0, -1, [1, 0, 0]), (1, 0, -1, [5, 0, 10]), (1, 1, -1, [5, 0, 0]),
                                             (1, 1, 0, [5, 0, 0])):
            rules = flat_start(0, same=same, perhaps=perhaps, never=never)
            self.assertEqual(asked([rules, *adds], count()), [answer])

    def test_256_that_are_all_perhaps(self):
        self.assertEqual(asked([flat_start(50), *[add()] * 256], count()), [[256, 0, 32640]])


class StartedAgain(unittest.TestCase):
    def test_nothing_is_left(self):
        lees = [{"first": "ANN", "last": "LEE"}, {"first": "BORIS", "last": "LEE"}]
        given = told(*linked(*TORN, *lees), count(), link_start(), count(), add("ANN"), count())
        self.assertEqual(given[6:], [[2, 3, 5, 1, 1], [0, 0], [2, 3, 0, 0, 0], [0, 0], [2, 3, 1, 0, 0]])

    def test_refused(self):
        given = told(*linked(*TORN), link_start(perhaps=101), count(), add("ann"), count(), add("ANN"), count())
        self.assertEqual(given[4:], [[0, -22], [2, 3, 3, 1, 0], [0, -22], [2, 3, 3, 1, 0], [0, 3], [2, 3, 4, 1, 0]])

    def test_a_257th_record_is_not_counted(self):
        given = told(flat_start(50), *[add()] * 257, count())
        self.assertEqual(given[257:], [[0, -28], [2, 3, 256, 0, 32640]])
