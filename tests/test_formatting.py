"""Point 11: the text of a subspace, and back."""

import unittest
from itertools import product as tuples_of

from smallspaces.errors import InvalidSetting, InvalidSubspace, ParseError
from smallspaces.formatting import format_space, parse_space
from tests.helpers import (
    OBJECTS, SETTINGS, all_rows, all_spaces, are_reduced, check_all_exceptions, check_raises, least_and_greatest,
    not_spaces, setting_fault,
)

# What a text with one wrong sign may have: signs that Python takes for digits, blanks or ends of lines, too.
SIGNS = list("0123456789 \n\r\t\x0b\x0c\x1c\x85-+_.,aIx\0\u0661\u00b2\uff11\u00a0\u2028\ud800")

# First lines that name no setting, or that name one in another way.
WRONG_FIRST_LINES = [
    "", " ", "2", "3", "23", "2  3", " 2 3", "2 3 ", "2 3 1", "2\t3", "2,3", "2_3", "02 3", "2 03", "+2 3", "2 +3",
    "-2 3", "2 -3", "2.0 3", "(2, 3)", "2x3", "2 3\r", "\ufeff2 3", "\uff12 \uff13", "\u0662 \u0663", "2\u00a03",
    "2\u20033", "0 1", "1 1", "4 1", "6 1", "7 1", "8 1", "9 1", "4 2", "2 0", "3 0", "5 0", "2 5", "3 5", "5 3", "5 4",
    "5 5", "2 9", "11 1", "2 10", "2 1_0", "10 1", "a b", "two three", "2 3#", "True 1", "2 True", "None", "p n",
    "2 3\x00", "\x002 3",
]


def text_of(setting, space):
    """Return the text of a subspace, made sign by sign."""
    found = str(setting[0]) + " " + str(setting[1])
    for row in space:
        found = found + "\n"
        for entry in row:
            found = found + str(entry)
    return found


def all_texts():
    """Return a dict from all texts to the setting and the subspace."""
    return {text_of(setting, space): (setting, space) for setting in SETTINGS for space in all_spaces(setting)}


def changed_texts(text):
    """Return all texts with one sign left out, put in or put in the place of another one."""
    found = []
    for at in range(len(text) + 1):
        found = found + [text[:at] + sign + text[at:] for sign in SIGNS]
        if at < len(text):
            found = found + [text[:at] + sign + text[at + 1:] for sign in SIGNS] + [text[:at] + text[at + 1:]]
    return found


class FormatSpaceTest(unittest.TestCase):

    def test_all_subspaces(self):
        for text, (setting, space) in all_texts().items():
            found = format_space(setting, space)
            self.assertEqual(found, text)
            self.assertIs(type(found), str)

    def test_by_hand(self):
        for setting, space, text in [
            ((2, 3), ((1, 0, 1), (0, 1, 1)), "2 3\n101\n011"),
            ((2, 1), (), "2 1"),
            ((2, 1), ((1,),), "2 1\n1"),
            ((5, 2), ((1, 4),), "5 2\n14"),
            ((5, 2), ((1, 0), (0, 1)), "5 2\n10\n01"),
            ((3, 4), ((1, 2, 0, 2), (0, 0, 1, 1)), "3 4\n1202\n0011"),
            ((2, 4), least_and_greatest((2, 4))[1], "2 4\n1000\n0100\n0010\n0001"),
        ]:
            self.assertEqual(format_space(setting, space), text)

    def test_no_two_subspaces_have_the_same_text(self):
        texts = [format_space(setting, space) for setting in SETTINGS for space in all_spaces(setting)]
        self.assertEqual(len(set(texts)), len(texts))

    def test_exceptions(self):
        for setting in SETTINGS:
            faults = [setting_fault(), (1, InvalidSubspace, not_spaces(setting))]
            for space in least_and_greatest(setting):
                check_all_exceptions(self, format_space, (setting, space), faults)

    def test_subspaces_of_other_settings(self):
        check_raises(self, InvalidSubspace, format_space, ((2, 2), ((1, 2),)))
        check_raises(self, InvalidSubspace, format_space, ((2, 3), ((1, 1),)))
        check_raises(self, InvalidSetting, format_space, ((5, 3), ((1, 1, 1),)))


class ParseSpaceTest(unittest.TestCase):

    def check_refused(self, text):
        check_raises(self, ParseError, parse_space, (text,))

    def test_all_texts(self):
        for text, expected in all_texts().items():
            found = parse_space(text)
            self.assertEqual(found, expected)
            self.assertEqual([type(found)] + [type(part) for part in found], [tuple] * 3)
            for row in (found[0],) + found[1]:
                self.assertIs(type(row), tuple)
                self.assertEqual([type(entry) for entry in row], [int] * len(row))

    def test_there_and_back(self):
        for setting in SETTINGS:
            for space in all_spaces(setting):
                self.assertEqual(parse_space(format_space(setting, space)), (setting, space))

    def test_texts_with_one_wrong_sign(self):
        texts = all_texts()
        for text in list(texts)[::7]:
            for changed in changed_texts(text):
                if changed in texts:
                    self.assertEqual(parse_space(changed), texts[changed])
                else:
                    self.check_refused(changed)

    def test_all_short_lists_of_rows(self):
        for setting in ((2, 1), (3, 1), (5, 1), (2, 2), (3, 2), (2, 3)):
            for many in range(4):
                for rows in tuples_of(all_rows(setting), repeat=many):
                    if are_reduced(setting, rows):
                        self.assertEqual(parse_space(text_of(setting, rows)), (setting, rows))
                    else:
                        self.check_refused(text_of(setting, rows))

    def test_first_lines(self):
        for line in WRONG_FIRST_LINES:
            for rest in ("", "\n1", "\n01", "\n101\n011", "\n0"):
                self.check_refused(line + rest)

    def test_numbers_of_settings(self):
        for p in range(-1, 12):
            for n in range(-1, 12):
                if (p, n) in SETTINGS:
                    self.assertEqual(parse_space(f"{p} {n}"), ((p, n), ()))
                else:
                    self.check_refused(f"{p} {n}")
                    self.check_refused(f"{p} {n}\n" + "0" * (n - 1) + "1")

    def test_rows_that_are_not_reduced(self):
        for text in [
            "2 3\n011\n101", "2 3\n111\n011", "2 3\n101\n101", "2 3\n000", "2 3\n101\n000", "2 3\n000\n101",
            "3 2\n20", "3 2\n02", "5 2\n41", "5 2\n01\n10", "5 2\n11\n01", "2 3\n101\n011\n110", "2 1\n1\n1", "2 1\n0",
            "2 3\n100\n010\n001\n000", "2 3\n100\n101",
        ]:
            self.check_refused(text)

    def test_rows_of_another_length_or_with_other_entries(self):
        for text in [
            "2 3\n10", "2 3\n1010", "2 3\n1", "2 2\n101", "2 1\n10", "2 1\n01", "2 2\n12", "3 2\n13", "5 2\n15",
            "5 2\n19", "2 3\n1 0 1", "2 3\n1,0,1", "2 3\n(1, 0, 1)", "2 3\n10-1", "2 3\n1-11", "2 2\n1a",
            "2 2\n1\u0661", "2 2\n\uff110", "2 2\n1\u00b2", "2 3\n1_1", "2 3\n+11", "2 3\n 11", "2 3\n11 ",
            "2 2\n1\u2080", "2 2\n\U0001d7cf0",
        ]:
            self.check_refused(text)

    def test_lines_too_many_or_ended_in_another_way(self):
        for text in [
            "2 3\n", "2 3\n\n", "\n2 3", "2 3\n\n101", "2 3\n101\n", "2 3\n101\n\n011", "2 3\n101\n011\n", "2 3\r\n101",
            "2 3\r\n101\r\n011", "2 3\n101\r\n011", "2 3\r101", "2 3\n101\r", "2 3\x0b101", "2 3\x0c101", "2 3\x85101",
            "2 3\u2028101", "2 3\x1c101", "2 3 101 011", "2 3\n101 011", "2 3\n101011", "2 3101", "2 3;101", "\n",
            "\n\n", "2\n3", "2\n3\n101", "2 3\n101\n011\n2 3", "2 3\\n101", "'2 3'", "2 3\n2 3",
        ]:
            self.check_refused(text)

    def test_long_texts(self):
        self.check_refused("2 3\n" + "1" * 10000)
        self.check_refused("2 3" + "\n101" * 10000)
        self.check_refused("2" * 10000)
        self.check_refused("\n" * 10000)

    def test_objects(self):
        # One of them is the text of a subspace.
        for value in [value for value in OBJECTS if not (isinstance(value, str) and value == "2 3")]:
            self.check_refused(value)
        for value in [(2, 3), ((2, 3), ()), b"2 3", bytearray(b"2 3"), ["2 3"], ("2 3",), ["2 3", "101"], {"2 3": ()}]:
            self.check_refused(value)


if __name__ == "__main__":
    unittest.main()
