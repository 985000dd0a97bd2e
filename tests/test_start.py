"""Promise 1: sl_start."""

import unittest

from tests.helper import BIRTH, FIRST, LAST, NUMBER, PLACE, add, flat_start, pair, start, told

WEIGHTS = {"first": FIRST, "last": LAST, "birth": BIRTH, "place": PLACE, "number": NUMBER}
RIGHT = [0, 0]
NOT_RIGHT = [0, -22]


def starts_with_weight(weight):
    """Rules with this weight, at each of the 22 places once."""
    return [
        start(**{part: weights[:place] + (weight,) + weights[place + 1:]})
        for part, weights in WEIGHTS.items() for place in range(len(weights))
    ]


class RightRules(unittest.TestCase):
    def test_plain_rules(self):
        self.assertEqual(told(start()), [RIGHT])

    def test_each_weight_at_its_edges(self):
        for weight in (-1000, 1000):
            calls = starts_with_weight(weight)
            self.assertEqual(told(*calls), [RIGHT] * 22, weight)

    def test_each_weight_beyond_its_edges(self):
        for weight in (-32768, -1001, 1001, 32767):
            calls = starts_with_weight(weight)
            self.assertEqual(told(*calls), [NOT_RIGHT] * 22, weight)

    def test_all_weights_at_an_edge(self):
        for weight in (-1000, 0, 1000):
            rules = start(**{part: (weight,) * len(weights) for part, weights in WEIGHTS.items()})
            self.assertEqual(told(rules), [RIGHT])

    def test_never_beside_perhaps(self):
        for perhaps in (-7, 0, 50):
            for never, answer in ((perhaps - 1, RIGHT), (perhaps, NOT_RIGHT), (perhaps + 1, NOT_RIGHT)):
                self.assertEqual(told(start(same=100, perhaps=perhaps, never=never)), [answer])

    def test_perhaps_beside_same(self):
        for same in (-7, 0, 50):
            for perhaps, answer in ((same - 1, RIGHT), (same, RIGHT), (same + 1, NOT_RIGHT)):
                self.assertEqual(told(start(same=same, perhaps=perhaps, never=-100)), [answer])

    def test_never_above_perhaps_and_below_same(self):
        self.assertEqual(told(start(same=100, perhaps=10, never=50)), [NOT_RIGHT])

    def test_bounds_at_the_ends_of_their_range(self):
        least, most = -2 ** 31, 2 ** 31 - 1
        self.assertEqual(told(start(same=most, perhaps=most, never=least)), [RIGHT])
        self.assertEqual(told(start(same=most, perhaps=most, never=most - 1)), [RIGHT])
        self.assertEqual(told(start(same=least + 1, perhaps=least + 1, never=least)), [RIGHT])
        self.assertEqual(told(start(same=least, perhaps=least, never=least)), [NOT_RIGHT])
        self.assertEqual(told(start(same=least, perhaps=most, never=least)), [NOT_RIGHT])


class StartedAgain(unittest.TestCase):
    def test_there_is_no_record(self):
        self.assertEqual(
            told(start(), add(), add(), start(), pair(0, 1), add(), pair(0, 1), add())[3:],
            [RIGHT, [0, -2], [0, 0], [0, -2], [0, 1]],
        )

    def test_new_rules_hold(self):
        calls = (flat_start(7), add(), add(), pair(0, 1), flat_start(500, same=500), add(), add(), pair(0, 1))
        given = told(*calls)
        self.assertEqual(given[3], [1, 0, 7, 0, 0, 0, 0, 0])
        self.assertEqual(given[7], [1, 2, 500, 0, 0, 0, 0, 0])

    def test_each_new_weight_holds(self):
        known = {"birth": (2000, 1, 1), "place": 1, "number": 1, "first": "ANN", "last": "LEE"}
        for part, weights in WEIGHTS.items():
            rules = start(**{part: weights[:-1] + (weights[-1] + 17,)})
            given = told(start(), rules, add(**known), add(**known), pair(0, 1))
            self.assertEqual(given[-1], [1, 2, 60 + 6 + 100 + 300 + 900 + 17, 5, 5, 3, 2, 2])

    def test_refused_at_first(self):
        self.assertEqual(told(start(never=50), start(), add()), [NOT_RIGHT, RIGHT, [0, 0]])


class RefusedLater(unittest.TestCase):
    def test_neither_rules_nor_records_change(self):
        refused = (
            flat_start(500, same=500, perhaps=500, never=500),
            flat_start(500, same=499, perhaps=500, never=0),
            flat_start(1001, same=9, perhaps=8, never=7),
        )
        before = told(flat_start(60), add("ANN"), add("BOB"), pair(0, 1))
        for call in refused:
            given = told(flat_start(60), add("ANN"), add("BOB"), call, pair(0, 1), add())
            self.assertEqual(given[3:], [NOT_RIGHT, before[3], [0, 2]])
        self.assertEqual(before[3], [1, 1, 60, 1, 0, 0, 0, 0])
