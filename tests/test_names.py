"""Names compared, as the levels of first and last tell it."""

import unittest
from itertools import product
from random import Random
from string import ascii_uppercase

from tests.helper import add, levels, model_changed, model_like, pair, start, told

LONG = "ABCDEFGHIJKLMNOP"


class NamesCase(unittest.TestCase):
    def check(self, level, *pairs):
        for a, b in pairs:
            self.assertEqual(levels({"first": a}, {"first": b}), [level, 0, 0, 0, 0], (a, b))
            self.assertEqual(levels({"last": a}, {"last": b}), [0, level, 0, 0, 0], (a, b))


class EmptyAndSame(NamesCase):
    def test_one_is_empty(self):
        self.check(0, ("", ""), ("", "A"), ("", "ANN"), ("", LONG))

    def test_the_same(self):
        self.check(5, ("A", "A"), ("ANN", "ANN"), ("AA", "AA"), (LONG, LONG), ("Z" * 16, "Z" * 16))

    def test_first_and_last_are_not_mixed(self):
        self.assertEqual(levels({"first": "ANN", "last": "LEE"}, {"first": "LEE", "last": "ANN"}), [1, 1, 0, 0, 0])
        self.assertEqual(levels({"first": "ANN", "last": "LEE"}, {"first": "ANN", "last": "LEA"}), [5, 4, 0, 0, 0])


class OneChange(NamesCase):
    def test_one_letter_is_another(self):
        self.check(4, ("ANN", "ENN"), ("ANN", "AMN"), ("ANN", "ANA"), ("A", "B"), ("AB", "AC"), ("AB", "CB"))
        self.check(4, (LONG, "Z" + LONG[1:]), (LONG, LONG[:8] + "Z" + LONG[9:]), (LONG, LONG[:15] + "Z"))

    def test_one_put_in(self):
        self.check(4, ("ANN", "HANN"), ("ANN", "AHNN"), ("ANN", "ANHN"), ("ANN", "ANNE"), ("A", "AB"), ("A", "BA"))

    def test_one_put_in_beside_a_like_one(self):
        self.check(4, ("ANN", "AANN"), ("ANN", "ANNN"), ("A", "AA"), ("AAAA", "AAAAA"), ("ABAB", "ABABA"))

    def test_one_put_in_up_to_sixteen(self):
        self.check(4, (LONG, LONG[1:]), (LONG, LONG[:15]), (LONG, LONG[:7] + LONG[8:]), ("A" * 16, "A" * 15))

    def test_neighbours_changed_about(self):
        self.check(4, ("ANNE", "NANE"), ("MARIA", "MAIRA"), ("MARIA", "MARAI"), ("AAB", "ABA"), ("AB", "BA"))
        self.check(4, (LONG, "BA" + LONG[2:]), (LONG, LONG[:14] + "PO"), (LONG, LONG[:7] + "IH" + LONG[9:]))

    def test_two_changes(self):
        self.check(1, ("ANN", "ENA"), ("AB", "CD"), ("KLAUS", "BLAUT"), ("TOM", "ATOME"), ("ROLF", "OLFS"))
        self.check(1, (LONG, "Z" + LONG[1:15] + "Z"), (LONG, "P" + LONG[1:15] + "A"))

    def test_two_that_are_not_neighbours_changed_about(self):
        self.check(1, ("ABC", "CBA"), ("BTL", "LTB"), ("XABCY", "XCBAY"), ("AAB", "BAA"))

    def test_one_letter_moved_further(self):
        self.check(1, ("ABCD", "BCAD"), ("BTLR", "TLRB"))

    def test_neighbours_changed_about_and_one_more(self):
        self.check(1, ("BTLR", "TBLK"), ("BTLR", "BLTK"), ("BTLR", "TBRL"))
        self.check(1, ("ROLT", "ORLTE"))

    def test_half_changed_about(self):
        self.check(1, ("KABL", "KBTL"), ("KABL", "KCAL"), ("TAB", "TBC"))

    def test_one_put_in_and_another_changed(self):
        self.check(1, ("BTLR", "KBTLM"), ("BTLR", "BKTLM"))


class Beginning(NamesCase):
    def test_three_letters_or_more(self):
        self.check(3, ("ANN", "ANNIK"), ("ANN", "ANNABEL"), ("ANNA", "ANNABEL"), ("ABC", LONG), (LONG[:14], LONG))

    def test_two_letters_or_one(self):
        self.check(1, ("AN", "ANKE"), ("AB", LONG), ("A", "ABC"), ("A", LONG))
        self.check(2, ("AN", "ANEE"), ("A", "AEE"), ("AN", "ANNE"))

    def test_one_letter_more_is_one_change(self):
        self.check(4, ("ANN", "ANNI"), ("AN", "ANN"), ("A", "AN"))

    def test_begins_with_not_all_letters(self):
        self.check(1, ("ANNB", "ANNTLR"), ("TOMK", "TOMLRS"))

    def test_ends_alike_is_no_beginning(self):
        self.check(1, ("BEL", "ANNABEL"), ("NAB", "ANNABEL"))


class Sound(NamesCase):
    def test_alike(self):
        self.check(2, ("ROBERT", "RUPARDE"), ("SMITTE", "SAND"), ("KAT", "KIDDO"), ("EUO", "EIAH"))

    def test_another_first_letter(self):
        self.check(1, ("KATRIN", "CATERINE"), ("ROBERT", "LUPARDE"), ("AEI", "OUY"))

    def test_vowel_between_like_classes(self):
        self.check(2, ("KASSO", "KESISE"), ("KAT", "KETUTO"), ("KAT", "KIDATE"), ("KAT", "KITHWYT"))

    def test_like_classes_side_by_side(self):
        self.check(2, ("KATO", "KEDT"), ("KASO", "KECKS"), ("KAMT", "KENMTI"), ("KATO", "KETDTD"))

    def test_first_letter_has_no_class(self):
        self.check(1, ("PFAE", "POUI"), ("BBOA", "BAEI"), ("SCHA", "SIEO"))
        self.check(2, ("PFAE", "POUB"), ("TDOA", "TAET"))

    def test_more_than_three_classes(self):
        self.check(2, ("KABATALAMA", "KEBUTILOROR"), ("KABATALAM", "KIBOTUL"), ("KBTLMR", "KABOTILE"))
        self.check(1, ("KABATAMALA", "KEBUTILOMOR"), ("KABATALA", "KEBUTO"), ("KABATA", "KEBO"))

    def test_like_classes_are_one_ahead_of_the_three(self):
        self.check(2, ("KABAPATALA", "KEBUTIL"), ("KBBBBTTTTLLLLRRR", "KABOTIL"), ("KATATATATABALA", "KDOPIL"))
        self.check(1, ("KABAPATALA", "KEBUPET"), ("KABABABATA", "KEPI"))

    def test_like_classes_not_side_by_side_stay(self):
        self.check(2, ("KATABATA", "KDOPOD"))
        self.check(1, ("KATABATA", "KDOP"))

    def test_sixteen_letters(self):
        self.check(2, ("KAAAAAAAAAAAAAAT", "KD"), ("KAAAAAAAATAAAAAL", "KEDOLO"))
        self.check(1, ("KAAAAAAAAAAAAAAT", "KB"))

    def test_class_of_each_letter(self):
        groups = ("AEHIOUWY", "BFPV", "CGJKQSXZ", "DT", "L", "MN", "R")
        group_of = {letter: group for group in groups for letter in group}
        self.assertEqual(sorted(group_of), list(ascii_uppercase))
        records = [add(f"HA{x}EIO") for x in ascii_uppercase] + [add(f"HOU{x}A") for x in ascii_uppercase]
        both = list(product(range(26), repeat=2))
        given = told(start(), *records, *[pair(i, 26 + j) for i, j in both])[53:]
        for (i, j), answer in zip(both, given, strict=True):
            alike = group_of[ascii_uppercase[i]] == group_of[ascii_uppercase[j]]
            self.assertEqual(answer[3], 2 if alike else 1, (i, j))

    def test_letter_written_twice_changes_nothing(self):
        for place in range(1, 8):
            text = "KABATMIR"
            twice = text[:place + 1] + text[place:]
            self.check(2, (twice + "OO", text[0] + "U" + text[1:]))


class AgainstTheModel(unittest.TestCase):
    def check_all(self, names, both):
        """Each pair in first, and the names from the other end in last."""
        records = [add(a, b) for a, b in zip(names, reversed(names), strict=True)]
        for begin in range(0, len(both), 1200):
            part = both[begin:begin + 1200]
            given = told(start(), *records, *[pair(i, j) for i, j in part])[1 + len(names):]
            for (i, j), answer in zip(part, given, strict=True):
                likeness = model_like(names[i], names[j]), model_like(names[-1 - i], names[-1 - j])
                self.assertEqual(tuple(answer[3:5]), likeness, (names[i], names[j]))

    def test_all_short_names(self):
        for letters in ("ABPT", "AEBM"):
            names = ["".join(word) for size in range(4) for word in product(letters, repeat=size)]
            both = [(i, j) for i, j in product(range(len(names)), repeat=2) if i != j]
            self.check_all(names, both)

    def test_names_of_two_letters_only(self):
        names = ["".join(word) for size in range(7) for word in product("AB", repeat=size)]
        self.check_all(names, [(i, j) for i, j in product(range(len(names)), repeat=2) if i < j])

    def test_names_a_few_changes_apart(self):
        source = Random(33)
        for size in (5, 9, 14, 15, 16):
            names = ["".join(source.choices("ABDLMRSTE", k=size))]
            while len(names) < 48:
                changed = source.choice(sorted(model_changed(source.choice(names))))
                if len(changed) <= 16:
                    names.append(changed)
            self.check_all(names, [(i, j) for i, j in product(range(48), repeat=2) if i != j])
