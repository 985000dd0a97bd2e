"""Promise 4: sl_group, and what hangs together."""

import unittest

from tests.helper import MOST, add, asked, births_in_a_row, flat_start, group, link_start, linked, start, told

AWAY = (1, 2, 255, 256, 2 ** 31, 2 ** 32, 2 ** 32 + 1, MOST - 1, MOST)


def groups(*firsts):
    return asked(linked(*firsts), *[group(i) for i in range(len(firsts))])


class NotThere(unittest.TestCase):
    def test_no_record_at_all(self):
        self.assertEqual(told(start(), *[group(i) for i in (0,) + AWAY])[1:], [[0, -2]] * 10)

    def test_behind_the_last_one(self):
        self.assertEqual(told(start(), add("ANN"), *[group(i) for i in AWAY])[2:], [[0, -2]] * 9)

    def test_behind_256(self):
        calls = [flat_start(0), *[add()] * 256, group(255), group(256)]
        self.assertEqual(told(*calls)[257:], [[2, 3, 255, 1, 0], [0, -2]])

    def test_changes_nothing(self):
        given = told(*linked("ANN"), group(1), add("ANN"), group(1), group(2), group(0))
        self.assertEqual(given[2:], [[0, -2], [0, 1], [2, 3, 0, 2, 0], [0, -2], [2, 3, 0, 2, 0]])


class OnePerson(unittest.TestCase):
    def test_a_record_by_itself(self):
        self.assertEqual(groups("ANN"), [[0, 1, 0]])

    def test_not_the_same(self):
        self.assertEqual(groups("ANN", "BORIS", "CLARA"), [[0, 1, 0], [1, 1, 0], [2, 1, 0]])

    def test_perhaps_is_not_enough(self):
        self.assertEqual(groups({"first": "ANN", "last": "LEE"}, {"first": "BORIS", "last": "LEE"}),
                         [[0, 1, 0], [1, 1, 0]])

    def test_directly_joined(self):
        self.assertEqual(groups("ANN", "ANNE"), [[0, 2, 0]] * 2)
        self.assertEqual(groups("ANN", "ANN", "ANN"), [[0, 3, 0]] * 3)

    def test_joined_by_others_alone(self):
        self.assertEqual(groups("ACE", "BCE", "BDE", "BDF"), [[0, 4, 0]] * 4)
        self.assertEqual(groups("BCE", "BDF", "ACE", "BDE"), [[0, 4, 0]] * 4)

    def test_the_least_one_at_the_end_of_a_way(self):
        self.assertEqual(groups("ACE", "BDF", "BDE", "BCE"), [[0, 4, 0]] * 4)

    def test_persons_side_by_side(self):
        self.assertEqual(groups("ANN", "BORIS", "ANNE", "CLARA", "BORI"),
                         [[0, 2, 0], [1, 2, 0], [0, 2, 0], [3, 1, 0], [1, 2, 0]])

    def test_joined_later(self):
        opening = [*linked("ACE", "BDE"), group(0), group(1), add("BCE"), group(0), group(1), group(2)]
        self.assertEqual(told(*opening)[3:], [
            [2, 3, 0, 1, 0], [2, 3, 1, 1, 0], [0, 2], [2, 3, 0, 3, 0], [2, 3, 0, 3, 0], [2, 3, 0, 3, 0],
        ])

    def test_two_persons_joined_later(self):
        self.assertEqual(groups("ZZZZ", "ACE", "BDF", "ACE", "BDE"),
                         [[0, 1, 0], [1, 2, 0], [2, 2, 0], [1, 2, 0], [2, 2, 0]])
        self.assertEqual(groups("ZZZZ", "ACE", "BDF", "ACE", "BDE", "BCE"), [[0, 1, 0]] + [[1, 5, 0]] * 5)

    def test_the_same_record_twice(self):
        known = {"first": "ANN", "last": "LEE", "birth": (1980, 3, 7), "place": 4, "number": 5}
        self.assertEqual(groups(known, known), [[0, 2, 0]] * 2)

    def test_all_unknown(self):
        self.assertEqual(groups({}, {}, {}), [[0, 1, 0], [1, 1, 0], [2, 1, 0]])
        opening = [flat_start(100), add(), add(), add()]
        self.assertEqual(asked(opening, group(0), group(1), group(2)), [[0, 3, 0]] * 3)

    def test_day_and_month_changed_about(self):
        self.assertEqual(groups({"birth": (1980, 3, 7)}, {"birth": (1980, 7, 3)}, {"birth": (1981, 7, 4)}),
                         [[0, 2, 0], [0, 2, 0], [2, 1, 0]])

    def test_weights_of_0(self):
        for same, never, answer in ((0, -1, [[0, 2, 0]] * 2), (1, -1, [[0, 1, 0], [1, 1, 0]]),
                                    (2, 0, [[0, 1, 0], [1, 1, 0]])):
            opening = [flat_start(0, same=same, perhaps=same, never=never), add(), add()]
            self.assertEqual(asked(opening, group(0), group(1)), answer)

    def test_256_in_a_row(self):
        dates = [{"birth": birth} for birth in births_in_a_row(256)]
        self.assertEqual(groups(*dates), [[0, 256, 0]] * 256)
        self.assertEqual(groups(*dates[::-1]), [[0, 256, 0]] * 256)
        self.assertEqual(groups(*dates[:100], *dates[101:]), [[0, 100, 0]] * 100 + [[100, 155, 0]] * 155)


class Torn(unittest.TestCase):
    def test_two_that_surely_differ_are_not_torn_by_themselves(self):
        self.assertEqual(groups({"first": "ANN", "number": 1}, {"first": "ANN", "number": 2}), [[0, 1, 0], [1, 1, 0]])

    def test_two_joined_by_a_third(self):
        torn = [[0, 1, 1], [1, 1, 1], [2, 1, 1]]
        self.assertEqual(groups({"first": "ANN", "number": 1}, {"first": "ANN", "number": 2}, "ANN"), torn)
        self.assertEqual(groups({"first": "ANN", "number": 1}, "ANN", {"first": "ANN", "number": 2}), torn)
        self.assertEqual(groups("ANN", {"first": "ANN", "number": 1}, {"first": "ANN", "number": 2}), torn)

    def test_by_the_sum(self):
        self.assertEqual(groups({"first": "ANN", "place": 1}, {"first": "ANN", "place": 2}, "ANN"),
                         [[0, 1, 1], [1, 1, 1], [2, 1, 1]])

    def test_not_by_two_that_are_not_the_same_only(self):
        self.assertEqual(groups("ACE", "BCE", "BDE"), [[0, 3, 0]] * 3)

    def test_by_the_far_ends(self):
        firsts = [{"first": "ACE", "number": 1}, "BCE", "BDE", {"first": "BDF", "number": 2}]
        self.assertEqual(groups(*firsts), [[k, 1, 1] for k in range(4)])
        self.assertEqual(groups(*firsts[:3]), [[0, 3, 0]] * 3)

    def test_by_the_far_ends_of_256(self):
        dates = [{"birth": birth} for birth in births_in_a_row(256)]
        dates[0]["number"], dates[255]["number"] = 1, 2
        self.assertEqual(groups(*dates), [[k, 1, 1] for k in range(256)])
        dates[255]["number"] = 1
        self.assertEqual(groups(*dates), [[0, 256, 0]] * 256)

    def test_a_record_that_tears_a_person(self):
        firsts = ["ZOE", {"first": "ACE", "number": 1}, "ZOE", "BCE", "MIRIAM"]
        self.assertEqual(groups(*firsts), [[0, 2, 0], [1, 2, 0], [0, 2, 0], [1, 2, 0], [4, 1, 0]])
        self.assertEqual(groups(*firsts, {"first": "BDE", "number": 2}),
                         [[0, 2, 0], [1, 1, 1], [0, 2, 0], [3, 1, 1], [4, 1, 0], [5, 1, 1]])

    def test_told_before_and_after(self):
        given = told(*linked({"first": "ACE", "number": 1}, "BCE"), group(0), group(1),
                     add("BDE", number=2), group(0), group(1), group(2))
        self.assertEqual(given[3:], [
            [2, 3, 0, 2, 0], [2, 3, 0, 2, 0], [0, 2], [2, 3, 0, 1, 1], [2, 3, 1, 1, 1], [2, 3, 2, 1, 1],
        ])

    def test_two_persons_joined_that_surely_differ(self):
        firsts = [{"first": "ACE", "number": 1}, "ACE", {"first": "BDE", "number": 2}, "BDE"]
        self.assertEqual(groups(*firsts), [[0, 2, 0], [0, 2, 0], [2, 2, 0], [2, 2, 0]])
        self.assertEqual(groups(*firsts, "BCE"), [[k, 1, 1] for k in range(5)])

    def test_one_more_in_what_is_torn(self):
        firsts = [{"first": "ACE", "number": 1}, "BCE", {"first": "BDE", "number": 2}]
        self.assertEqual(groups(*firsts, "BDF"), [[k, 1, 1] for k in range(4)])
        self.assertEqual(groups(*firsts, "BDF", "BDF", "ZOE"), [[k, 1, 1] for k in range(5)] + [[5, 1, 0]])

    def test_several_are_torn(self):
        firsts = [{"first": "ACE", "number": 1}, {"first": "ZOE", "number": 1}, "BCE", "ZOE",
                  {"first": "ZOE", "number": 2}, "MIRIAM", {"first": "BDE", "number": 2}, "MIRIAM"]
        self.assertEqual(groups(*firsts), [
            [0, 1, 1], [1, 1, 1], [2, 1, 1], [3, 1, 1], [4, 1, 1], [5, 2, 0], [6, 1, 1], [5, 2, 0],
        ])

    def test_beside_one_of_the_other_part_that_surely_differs(self):
        firsts = [{"first": "ANN", "number": 1}, "ANN", {"first": "ZOE", "number": 2}, "ZOE"]
        self.assertEqual(groups(*firsts), [[0, 2, 0], [0, 2, 0], [2, 2, 0], [2, 2, 0]])


class StartedAgain(unittest.TestCase):
    def test_no_record_is_there(self):
        opening = linked("ANN", "ANN")
        given = told(*opening, group(0), link_start(), group(0), group(1), add("BOB"), group(0), group(1))
        self.assertEqual(given[3:], [[2, 3, 0, 2, 0], [0, 0], [0, -2], [0, -2], [0, 0], [2, 3, 0, 1, 0], [0, -2]])

    def test_what_was_told_is_forgotten(self):
        torn = linked({"first": "ANN", "number": 1}, "ANN", {"first": "ANN", "number": 2})
        again = linked("ANN", "BORIS", "ANN")
        self.assertEqual(asked(torn + again, group(0), group(1), group(2)), [[0, 2, 0], [1, 1, 0], [0, 2, 0]])

    def test_new_rules_hold(self):
        adds = [add("ANN"), add("ANN")]
        self.assertEqual(asked([link_start(), *adds], group(1)), [[0, 2, 0]])
        self.assertEqual(asked([link_start(), *adds, link_start(same=101), *adds], group(1)), [[1, 1, 0]])

    def test_refused(self):
        given = told(*linked("ANN", "ANN"), link_start(perhaps=101), group(1), add("ANN"), group(1))
        self.assertEqual(given[3:], [[0, -22], [2, 3, 0, 2, 0], [0, 2], [2, 3, 0, 3, 0]])
