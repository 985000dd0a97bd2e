"""The interface: the form of what is handed in and given back."""

import unittest

import samepeople.desk
from samepeople.desk import answers
from tests.helper import add, flat_start, line, pair, start

WRITTEN_START = [
    0, 100, 50, -50,
    6, 10, -20, 30, 40, 50, 60,
    6, 1, -2, 3, 4, 5, 6,
    4, 0, -7, 70, 100,
    3, 0, -300, 300,
    3, 0, -900, 900,
]
WRITTEN_ANN = [
    1, 4711, 12, 1980, 3, 7, 99,
    16, 65, 78, 78, 0, 0, 0, 0, 0, 0, 0, 0, 0, 0, 0, 0, 0,
    16, 76, 69, 69, 0, 0, 0, 0, 0, 0, 0, 0, 0, 0, 0, 0, 0,
    3, 0, 0, 0,
]
WRITTEN_ANNE = [
    1, 0, 13, 1980, 7, 3, 5,
    16, 65, 78, 78, 69, 0, 0, 0, 0, 0, 0, 0, 0, 0, 0, 0, 0,
    16, 76, 69, 69, 0, 0, 0, 0, 0, 0, 0, 0, 0, 0, 0, 0, 0,
    3, 0, 0, 0,
]
WRITTEN_WRONG = [
    1, 0, 0, 0, 0, 0, 0,
    16, 97, 0, 0, 0, 0, 0, 0, 0, 0, 0, 0, 0, 0, 0, 0, 0,
    16, 0, 0, 0, 0, 0, 0, 0, 0, 0, 0, 0, 0, 0, 0, 0, 0,
    3, 0, 0, 0,
]


class Form(unittest.TestCase):
    def test_each_call_by_its_numbers(self):
        self.assertEqual(answers(WRITTEN_START), [2, 0, 0])
        self.assertEqual(answers(WRITTEN_START + WRITTEN_ANN), [2, 0, 0, 2, 0, 0])
        self.assertEqual(answers(WRITTEN_START + [2, 0, 1]), [2, 0, 0, 2, 0, -2])

    def test_several_calls(self):
        calls = WRITTEN_START + WRITTEN_ANN + WRITTEN_WRONG + WRITTEN_ANNE + [2, 0, 1] + [2, 1, 0] + [2, 1, 1]
        told = [8, 1, 3, 50 + 6 + 70 - 300 + 0, 4, 5, 2, 1, 0]
        self.assertEqual(answers(calls), [2, 0, 0, 2, 0, 0, 2, 0, -22, 2, 0, 1, *told, *told, 2, 0, -2])

    def test_refused_start(self):
        wrong = list(WRITTEN_START)
        wrong[-1] = 1001
        self.assertEqual(answers(wrong + WRITTEN_START + [2, 0, 0]), [2, 0, -22, 2, 0, 0, 2, 0, -2])

    def test_helper_writes_the_same(self):
        self.assertEqual(start(), WRITTEN_START)
        self.assertEqual(add("ANN", "LEE", (1980, 3, 7), 12, 4711, 99), WRITTEN_ANN)

    def test_whole_numbers_in_a_list(self):
        given = answers(WRITTEN_START + WRITTEN_ANN + WRITTEN_ANNE + [2, 0, 1, 2, 0, 0])
        self.assertIs(type(given), list)
        self.assertEqual({type(number) for number in given}, {int})


class HandedIn(unittest.TestCase):
    def test_is_the_same_after(self):
        calls = line([start(), add("ANN"), add("ann"), add("ANNE", zero=(0, 0, 1)), add("BOB"), pair(0, 1), pair(1, 1)])
        before = list(calls)
        answers(calls)
        self.assertEqual(calls, before)

    def test_is_not_changed_for_a_while(self):
        class Watched(list):
            def refuse(self, *given):
                raise AssertionError("changed")

            __setitem__ = __delitem__ = __iadd__ = append = extend = insert = pop = remove = refuse
            clear = reverse = sort = __imul__ = refuse

        calls = line([start(), add("ANN"), add("ANNE"), add("ann"), pair(0, 1), start(), pair(0, 1)])
        self.assertEqual(answers(Watched(calls)), answers(calls))

    def test_what_is_given_back_is_new(self):
        calls = line([start(), add("ANN"), add("ANNE"), pair(0, 1)])
        first = answers(calls)
        copied = list(first)
        first.clear()
        self.assertEqual(answers(calls), copied)


class NothingKept(unittest.TestCase):
    def test_two_times_one_behind_the_other(self):
        calls = line([start(), add("ANN"), add("ANNE"), pair(0, 1)])
        self.assertEqual(answers(calls), answers(calls))
        self.assertEqual(answers(line([start(), pair(0, 1), add()])), [2, 0, 0, 2, 0, -2, 2, 0, 0])

    def test_rules_of_one_time_are_not_those_of_another(self):
        pairs = [add(), add(), pair(0, 1)]
        self.assertEqual(answers(line([flat_start(100), *pairs]))[-7:-5], [2, 100])
        self.assertEqual(answers(line([flat_start(-60), *pairs]))[-7:-5], [3, -60])
        self.assertEqual(answers(line([flat_start(100), *pairs]))[-7:-5], [2, 100])


class Long(unittest.TestCase):
    def test_3000_calls(self):
        calls = line([start(), add("ANN"), add("ANN")] + [pair(0, 1)] * 2997)
        told = [8, 1, 1, 61, 5, 0, 0, 0, 0]
        self.assertEqual(answers(calls), [2, 0, 0, 2, 0, 0, 2, 0, 1] + told * 2997)

    def test_256_in_a_row(self):
        names = ["A" * (1 + k % 16) for k in range(256)]
        calls = line([start(), *[add(text, number=7) for text in names], *[pair(k, k + 1) for k in range(255)]])
        self.assertLessEqual(len(calls), 16000)
        given = answers(calls)[3 + 3 * 256:]
        told = [given[k:k + 9] for k in range(0, len(given), 9)]
        ends = [k for k in range(255) if k % 16 == 15]
        for k, answer in enumerate(told):
            level = 2 if k in ends else 4
            self.assertEqual(answer, [8, 1, 2, (30 if level == 2 else 50) + 1 + 900, level, 0, 0, 0, 2])
        self.assertEqual(len(told), 255)


class Unknown(unittest.TestCase):
    def test_a_number_that_stands_for_no_call(self):
        with self.assertRaises(samepeople.desk.UnknownCall):
            answers(line([start(), [6]]))
