"""nearseats.names: names, numbers and members [3] [4]."""

import unittest

from nearseats.names import is_member, is_name, is_number, member_name, written_number

from samples import ODD_VALUES, pair_book

NO_STRINGS = tuple(value for value in ODD_VALUES if not isinstance(value, str))


class IsNameTest(unittest.TestCase):
    def test_names(self):
        for name in ("A", "z", "Oak", "a1", "Z99", "ABCDEFGHIJKL", "a12345678901"):
            self.assertIs(is_name(name), True, name)

    def test_other_strings(self):
        for word in ("", "1a", "9", "-", "a-b", "a b", "a.1", " a", "a ", "a\n", "a_b", "ABCDEFGHIJKLM", "[", "@", "`",
                     "{", "a/", "a:"):
            self.assertIs(is_name(word), False, word)

    def test_other_kinds(self):
        for value in (*NO_STRINGS, ("a",), ["a"], {"a": 1}, pair_book()):
            self.assertIs(is_name(value), False, value)


class IsNumberTest(unittest.TestCase):
    def test_within_and_outside(self):
        for value, least, most, wanted in ((3, 3, 3, True), (3, 0, 5, True), (2, 3, 5, False), (6, 3, 5, False),
                                           (5, 3, 5, True), (-2, -3, 0, True), (-4, -3, 0, False), (0, 0, 0, True)):
            self.assertIs(is_number(value, least, most), wanted)

    def test_no_bound(self):
        self.assertIs(is_number(10 ** 40, 0, None), True)
        self.assertIs(is_number(-1, 0, None), False)

    def test_empty_ranges(self):
        for value in (-1, 0, 1, 2, 3):
            self.assertIs(is_number(value, 2, 1), False)

    def test_true_and_false_are_none(self):
        for value in (True, False):
            self.assertIs(is_number(value, 0, 1), False)
            self.assertIs(is_number(value, -9, None), False)

    def test_other_kinds(self):
        for value in (None, "1", "", (1,), [1], {1: 1}, pair_book()):
            self.assertIs(is_number(value, 0, None), False)
            self.assertIs(is_number(value, 0, 9), False)


class MemberTest(unittest.TestCase):
    def test_members(self):
        for word in ("c.1", "c.9", "Oak7.10", "ABCDEFGHIJKL.999999999"):
            self.assertIs(is_member(word), True, word)

    def test_other_strings(self):
        for word in ("", "c", "c.", ".1", "c.0", "c.01", "c.1.2", "c..1", "c.1 ", " c.1", "c. 1", "c.-1", "c.+1",
                     "1c.1", "c.a", "c.1000000000", "ABCDEFGHIJKLM.1", "c-1", "-", "c.1\n"):
            self.assertIs(is_member(word), False, word)

    def test_other_kinds(self):
        for value in (*NO_STRINGS, ("c", 1), ["c.1"], pair_book()):
            self.assertIs(is_member(value), False)

    def test_member_name(self):
        self.assertEqual(member_name("c", 1), "c.1")
        self.assertEqual(member_name(family="Ash9", k=12), "Ash9.12")


class WrittenNumberTest(unittest.TestCase):
    def test_numbers(self):
        for word, number in (("0", 0), ("1", 1), ("10", 10), ("907", 907), ("999999999", 999999999)):
            self.assertEqual(written_number(word), number)
            self.assertIs(type(written_number(word)), int)

    def test_other_strings(self):
        for word in ("", "00", "01", "-1", "+1", " 1", "1 ", "1_0", "1.0", "a", "1a", "1000000000", "0000000001", "1\n",
                     "0x1"):
            self.assertIsNone(written_number(word), word)

    def test_other_kinds(self):
        for value in (*NO_STRINGS, 7, ("1",), ["1"], {"1": 1}):
            self.assertIsNone(written_number(value))


if __name__ == "__main__":
    unittest.main()
