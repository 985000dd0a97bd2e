"""Promise 2: sl_add."""

import unittest

from tests.helper import MOST, add, name, pair, start, told

NOT_RIGHT = [0, -22]
FULL = [0, -28]


def added(**parts):
    """What a first record is answered."""
    return told(start(), add(**parts))[1]


class Numbered(unittest.TestCase):
    def test_as_they_come(self):
        self.assertEqual(told(start(), add("ANN"), add("BOB"), add("CARL")), [[0, 0], [0, 0], [0, 1], [0, 2]])

    def test_the_same_record_many_times(self):
        self.assertEqual(told(start(), *[add("ANN", "LEE", number=7)] * 5)[1:], [[0, k] for k in range(5)])

    def test_whatever_number_place_and_roll_are(self):
        for number in (0, 1, 2 ** 32, MOST):
            for place in (0, 1, 2 ** 32 - 1):
                for roll in (0, 1, 2 ** 32 - 1):
                    self.assertEqual(added(number=number, place=place, roll=roll), [0, 0])


class Names(unittest.TestCase):
    def check(self, row, answer):
        self.assertEqual(added(first=row), answer, row)
        self.assertEqual(added(last=row), answer, row)
        self.assertEqual(added(first="ANN", last=row), answer, row)
        self.assertEqual(added(first=row, last="LEE"), answer, row)

    def test_right_names(self):
        for text in ("", "A", "Z", "AZ", "ABCDEFGHIJKLMNO", "ABCDEFGHIJKLMNOP", "KLMNOPQRSTUVWXYZ", "A" * 16):
            self.check(name(text), [0, 0])

    def test_a_byte_of_0_with_letters_behind_it(self):
        for row in (
            [0, 65] + [0] * 14, [65, 0, 66] + [0] * 13, [0] * 15 + [65], [65] * 14 + [0, 65],
            [65] * 7 + [0] * 2 + [66] * 7, [0] + [65] * 15,
        ):
            self.check(row, NOT_RIGHT)

    def test_bytes_that_are_no_letters(self):
        for byte in (1, 0x20, 0x30, 0x40, 0x5B, 0x61, 0x7A, 0xC1, 255):
            for place in (0, 1, 8, 15):
                row = [65] * place + [byte] + [0] * (15 - place)
                self.check(row, NOT_RIGHT)
                row = [65] * place + [byte] + [65] * (15 - place)
                self.check(row, NOT_RIGHT)

    def test_just_the_letters_are_right(self):
        for byte in range(256):
            letter = 0x41 <= byte <= 0x5A or byte == 0
            self.check([byte] + [0] * 15, [0, 0] if letter else NOT_RIGHT)

    def test_small_letters(self):
        for text in ("ann", "Ann", "ANn", "A" * 15 + "a"):
            self.check(name(text), NOT_RIGHT)


class Births(unittest.TestCase):
    def check(self, births, answer):
        for birth in births:
            self.assertEqual(added(birth=birth), answer, birth)

    def test_right(self):
        self.check([(0, 0, 0), (1, 1, 1), (9999, 12, 31), (1, 12, 31), (9999, 1, 1), (1999, 2, 31)], [0, 0])

    def test_year_beyond_its_edges(self):
        self.check([(0, 5, 5), (10000, 5, 5), (65535, 5, 5), (10000, 0, 0)], NOT_RIGHT)

    def test_month_beyond_its_edges(self):
        self.check([(1980, 0, 5), (1980, 13, 5), (1980, 255, 5), (0, 13, 0)], NOT_RIGHT)

    def test_day_beyond_its_edges(self):
        self.check([(1980, 5, 0), (1980, 5, 32), (1980, 5, 255), (0, 0, 32)], NOT_RIGHT)

    def test_known_in_part(self):
        self.check([(1980, 0, 0), (0, 5, 0), (0, 0, 5), (1, 1, 0), (1, 0, 1), (0, 1, 1)], NOT_RIGHT)


class Zero(unittest.TestCase):
    def test_all_must_be_0(self):
        for zero in ((1, 0, 0), (0, 1, 0), (0, 0, 1), (255, 0, 0), (0, 255, 0), (0, 0, 255), (1, 1, 1)):
            self.assertEqual(added(zero=zero), NOT_RIGHT, zero)


class Full(unittest.TestCase):
    def test_256_then_no_more(self):
        given = told(start(), *[add("ANN")] * 258)
        self.assertEqual(given[1:257], [[0, k] for k in range(256)])
        self.assertEqual(given[257:], [FULL, FULL])

    def test_not_right_is_named_first(self):
        given = told(start(), *[add("ANN")] * 256, add("ann"), add(birth=(1, 0, 0)), add(zero=(0, 0, 1)), add())
        self.assertEqual(given[257:], [NOT_RIGHT, NOT_RIGHT, NOT_RIGHT, FULL])

    def test_the_last_ones_are_kept(self):
        given = told(start(), *[add()] * 254, add("ANN"), add("ANNA"), add("BOB"), pair(254, 255), pair(255, 256))
        self.assertEqual(given[-2:], [[1, 1, 50 + 1, 4, 0, 0, 0, 0], [0, -2]])

    def test_started_again_there_is_room(self):
        given = told(start(), *[add()] * 256, start(), add(), pair(0, 1))
        self.assertEqual(given[257:], [[0, 0], [0, 0], [0, -2]])


class Refused(unittest.TestCase):
    def test_changes_nothing(self):
        for call in (add("ann"), add(last="L-"), add(birth=(1, 1, 32)), add(zero=(0, 1, 0))):
            given = told(start(), call, add("ANN"), call, pair(0, 1), add("ANN"), call, pair(0, 1), pair(1, 2))
            self.assertEqual(given[1:4], [NOT_RIGHT, [0, 0], NOT_RIGHT])
            self.assertEqual(given[4:], [[0, -2], [0, 1], NOT_RIGHT, [1, 1, 61, 5, 0, 0, 0, 0], [0, -2]])
