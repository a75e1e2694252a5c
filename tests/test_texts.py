"""[3, 4, 5, 111] Numbers and changes written as texts, and read again."""

import re
import unittest
from math import gcd
from random import Random

from cutexchange.changes import is_change
from cutexchange.errors import NoText
from cutexchange.numbers import is_number, times
from cutexchange.texts import change_read, change_text, number_read, number_text
from tests.helper import (
    FREE, GOLDEN, ONE, OTHER_KINDS, ROOT, ROOTS, STILL, THREE, TWELVE, ZERO, refused, some_changes, some_numbers,
)

NUMBERS = [
    ((7, 0, 1), "7"), ((-3, 0, 4), "-3/4"), ((0, 1, 1), "0+1r"), ((1, -2, 3), "(1-2r)/3"), (ZERO, "0"), (ONE, "1"),
    ((-1, 0, 1), "-1"), ((1, 0, 2), "1/2"), ((0, -1, 1), "0-1r"), ((0, 1, 2), "(0+1r)/2"), ((0, -7, 3), "(0-7r)/3"),
    ((-1, 1, 1), "-1+1r"), ((-1, -1, 1), "-1-1r"), ((-10, 20, 3), "(-10+20r)/3"), ((100, 0, 7), "100/7"),
    ((10 ** 39, 0, 1), "1" + "0" * 39), ((-(10 ** 40 - 1), 0, 2), "-" + "9" * 40 + "/2"), ((5, 10, 1), "5+10r"),
    ((10, -30, 7), "(10-30r)/7"), ((0, 10 ** 39, 3), "(0+1" + "0" * 39 + "r)/3"), ((3, 5, 10), "(3+5r)/10"),
]

CHANGES = [
    (STILL, "0 : 1 : 0"), (GOLDEN, "2 : 1 -1+1r : 1 0"), (THREE, "0 : 1/2 1/3 2 : 2 0 1"),
    (FREE, "2 : 1 0+1r 3-1r (-1+2r)/5 : 3 2 1 0"),
    (TWELVE, "3 : (1+1r)/7 (2+1r)/7 (3+1r)/7 (4+1r)/7 (5+1r)/7 (6+1r)/7 (7+1r)/7 (8+1r)/7 (9+1r)/7 (10+1r)/7 (11+1r)/7 "
             "(12+1r)/7 : 11 3 7 0 9 4 1 10 5 8 2 6"),
    ((97, (ROOT,), (0,)), "97 : 0+1r : 0"), ((2, (ONE, ONE), (0, 1)), "2 : 1 1 : 0 1"),
]

# What is written otherwise than a number is, mostly by a single sign.
NO_NUMBERS = [
    "", " ", "r", "+", "-", "/", "()", "7 ", " 7", "7\n", "\t7", "7.", "7.0", "7e0", "0x7", "1_0", "1__0", "_1", "1_",
    "+7", "+0", "--7", "-+7", "-0", "00", "07", "-07", "007", "- 7", "7-", "7/", "/7", "7/1", "-7/1", "0/1", "0/2",
    "2/4", "-2/4", "7/-3", "7/+3", "7/03", "7/0", "0/0", "7//3", "7/3/1", "7 /3", "7/ 3", "7/3 ", "7/3r", "(7/3)",
    "(7)/3", "(7)", "-(7)/3", "1r", "0r", "+1r", "-1r", "0+r", "0-r", "r+1", "1+0r", "1-0r", "0+0r", "0+1R", "0+1 r",
    "0 +1r", "0+ 1r", "0 + 1r", "0+1r ", " 0+1r", "0+01r", "00+1r", "-0+1r", "+0+1r", "0++1r", "0+-1r", "0-+1r",
    "0--1r", "0+1rr", "0+1r+1", "1r+0", "0+1_0r", "0_0+1r", "0+1r/2", "0+1r/1", "(0+1r)", "(0+1r)/1", "(0+1r)/",
    "(0+1r)2", "0+1r)/2", "(0+1r/2", "((0+1r))/2", "(0+1r)/02", "(0+1r)/+2", "(0+1r)/-2", "(0+1r)/0", "(0+1R)/2",
    "(0+1r) /2", "(0+1r)/ 2", "( 0+1r)/2", "(0+1r )/2", "(0+1r)/2 ", " (0+1r)/2", "-(0+1r)/2", "+(0+1r)/2",
    "(2+4r)/6", "(0+2r)/2", "(2+2r)/2", "(0+0r)/2", "(3+0r)/2", "[0+1r]/2", "(0+1r)//2", "(0+1r)/2/1", "(0+1r)/2r",
    "(0+1r)(0+1r)", "1 2", "1,2", "7:", "one", "none", "None", "True", "(7, 0, 1)", "7r/3", "(7r)/3", "1+1", "1-1",
    "1+1r-1r", "1+2+1r", "nan", "inf", "1e5", "0b1", "0o7",
]

# What is written otherwise than a change is, mostly by a single sign.
NO_CHANGES = [
    "", " ", ":", " : ", " :  : ", "0", "0 : 1", "0 : 1 : ", " : 1 : 0", "0 :  : 0", "0 : 1 :", "0 : 1 : 0 ",
    " 0 : 1 : 0", "0  : 1 : 0", "0 :  1 : 0", "0 : 1  : 0", "0 : 1 :  0", "0: 1 : 0", "0 :1 : 0", "0 : 1: 0",
    "0 : 1 :0", "0:1:0", "0 : 1 : 0 : 0", "0 : 1 : 0 :", "0 : 1 : 0\n", "\n0 : 1 : 0", "0 : 1 ; 0", "0 , 1 , 0",
    "00 : 1 : 0", "-0 : 1 : 0", "+0 : 1 : 0", "0 : 01 : 0", "0 : +1 : 0", "0 : 1 : 00", "0 : 1 : +0", "0 : 1 : -0",
    "0 : 1/1 : 0", "0 : 2/2 : 0", "0 : 2/4 : 0", "0 : -1 : 0", "0 : 0 : 0", "0 : 1 : 1", "0 : 1 : -1", "0 : 1 : 0 0",
    "0 : 1 1 : 0", "0 : 1 1 : 0 0", "0 : 1 1 : 1 1", "0 : 1 1 : 1 2", "0 : 1 1 : 0 1 2", "0 : 1  1 : 0 1",
    "0 : 1 1 : 0  1", "0 : 1 1 : 0,1", "0 : 1,1 : 0 1", "0 : 0+1r : 0", "1 : 1 : 0", "4 : 1 : 0", "8 : 1 : 0",
    "12 : 1 : 0", "98 : 1 : 0", "100 : 1 : 0", "101 : 1 : 0", "-2 : 1 : 0", "02 : 1 : 0", "2_0 : 1 : 0",
    "2/1 : 1 : 0", "4/2 : 1 : 0", "r : 1 : 0", "0+1r : 1 : 0", "2 : 1 -1+1R : 1 0", "2 : 1 1-1r : 1 0",
    "2 : 1 -1+01r : 1 0", "2 : 1 -1+1r : 1 00", "2 : 1 -1+1r : 01 0", "2 : 1 -1+1r : 1 0 ", "2 : 1 -1+1r : 1 0r",
    "2 : 1 -1+1r : 1/1 0", "2 : 1 -1 +1r : 1 0", "2 : 1 -1+1r : 10", "2 : (1) -1+1r : 1 0", "2 : 1 -1+1r\n: 1 0",
    "2\t: 1 -1+1r : 1 0", "2 : 1\t-1+1r : 1 0", "2 : 1 -1+1r : 1\t0", "(2 : 1 -1+1r : 1 0)",
    "0 : 1 1 1 1 1 1 1 1 1 1 1 1 1 : 0 1 2 3 4 5 6 7 8 9 10 11 12", "0 : 1 : 0 0 : 1 : 0", "change 0 : 1 : 0",
    "(0, ((1, 0, 1),), (0,))", "0 : one : 0", "none",
]


WHOLE, ABOVE = "(0|-?[1-9][0-9]*)", "([1-9][0-9]*)"
PLAIN = re.compile(f"{WHOLE}(?:/{ABOVE})?")
ROOTED = re.compile(f"{WHOLE}([+-]{ABOVE})r|[(]{WHOLE}([+-]{ABOVE})r[)]/{ABOVE}")


def number_by_pattern(text):
    """The number that a text is written for, found otherwise; None where it is written for none."""
    if found := PLAIN.fullmatch(text):
        a, b, c = int(found[1]), 0, int(found[2] or 1)
        told = found[2] != "1"
    elif found := ROOTED.fullmatch(text):
        a, b, c = int(found[1] or found[4]), int(found[2] or found[5]), int(found[7] or 1)
        told = found[7] != "1"
    else:
        return None
    return (a, b, c) if told and gcd(a, b, c) == 1 else None


def changed_by_a_sign(text, source):
    """Texts that differ by one sign: one more, one fewer, another one."""
    signs = "0123456789+-/()r: _R.,\n"
    for at in range(len(text) + 1):
        for sign in source.sample(signs, 5):
            yield text[:at] + sign + text[at:]
            yield text[:at] + sign + text[at + 1:]
        yield text[:at] + text[at + 1:]


class NumberText(unittest.TestCase):
    def test_known(self):
        for number, text in NUMBERS:
            self.assertEqual(number_text(number), text)
            self.assertIs(type(number_text(number)), str)

    def test_sign_for_sign(self):
        for root in (0, 2, 97):
            for a, b, c in some_numbers(root, 300, 12, "texts"):
                told = f"{a}" if b == 0 else f"{a}{b:+}r"
                told = told if c == 1 else f"({told})/{c}" if b else f"{told}/{c}"
                self.assertEqual(number_text((a, b, c)), told)


class NumberRead(unittest.TestCase):
    def test_known(self):
        for number, text in NUMBERS:
            self.assertEqual(number_read(text), number)
            self.assertEqual([type(part) for part in number_read(text)], [int, int, int])

    def test_there_and_back(self):
        for root in ROOTS[:20] + [97]:
            for number in some_numbers(root, 60, 40, "there"):
                self.assertEqual(number_read(number_text(number)), number)

    def test_forty_figures(self):
        many = 10 ** 40 - 1
        for number in [(many, many - 1, many - 2), (-many, -many + 1, many - 2), (-many, 0, many - 1), (0, many, 1)]:
            self.assertTrue(is_number(2, number))
            self.assertEqual(number_read(number_text(number)), number)

    def test_2000_signs(self):
        self.assertEqual(number_read("9" * 2000), (10 ** 2000 - 1, 0, 1))
        self.assertEqual(number_read("-1" + "0" * 1998), (-(10 ** 1998), 0, 1))
        text = "(" + "1" * 900 + "-" + "3" * 900 + "r)/" + "1" + "0" * 194
        self.assertEqual((len(text), number_read(text)), (2000, (10 ** 900 // 9, -(10 ** 900 // 3), 10 ** 194)))
        for sign in "x 0-+/(r:":
            refused(self, NoText, number_read, sign * 2000)
        for text in ["1/" * 1000, "1" * 1999 + " ", " " + "1" * 1999, "1" * 1999 + "r"]:
            refused(self, NoText, number_read, text)

    def test_what_was_told_with_many_figures(self):
        number = (10 ** 39 + 1, 3, 10 ** 39 - 7)
        for _ in range(8):
            number = times(2, number, number)
            self.assertEqual(number_read(number_text(number)), number)
        self.assertGreater(number[0], 10 ** 9000)
        self.assertEqual(number_text((10 ** 5000 + 10 ** 60, 0, 1)), "1" + "0" * 4939 + "1" + "0" * 60)

    def test_written_otherwise(self):
        for text in NO_NUMBERS:
            self.assertIsNone(number_by_pattern(text))
            refused(self, NoText, number_read, text)

    def test_otherwise_by_a_single_sign(self):
        source = Random("sign")
        read, refusals = 0, 0
        for known, text in NUMBERS:
            self.assertEqual(number_by_pattern(text), known)
            for other in changed_by_a_sign(text, source):
                number = number_by_pattern(other)
                if number is None:
                    refused(self, NoText, number_read, other)
                    refusals += 1
                else:
                    self.assertEqual(number_read(other), number)
                    self.assertEqual(number_text(number), other)
                    read += 1
        self.assertTrue(read > 500 and refusals > 1000, (read, refusals))

    def test_signs_that_are_no_ascii_figures(self):
        for text in ["\u0661", "\u00b2", "\uff17", "7\u00a0", "\u22127", "1\u20442", "0+1\u0433"]:
            refused(self, NoText, number_read, text)

    def test_no_text(self):
        for thing in OTHER_KINDS + [0, 7, 10 ** 39, ZERO, ONE, ["7"], ("7",), {"7": 7}]:
            if thing != "1":
                refused(self, NoText, number_read, thing)

    def test_texts_of_changes(self):
        for _, text in CHANGES:
            refused(self, NoText, number_read, text)


class ChangeText(unittest.TestCase):
    def test_known(self):
        for change, text in CHANGES:
            self.assertTrue(is_change(change))
            self.assertEqual(change_text(change), text)
            self.assertIs(type(change_text(change)), str)

    def test_sign_for_sign(self):
        for root, longs, order in some_changes(120, "texts"):
            told = f"{root} : {' '.join(map(number_text, longs))} : {' '.join(map(str, order))}"
            self.assertEqual(change_text((root, longs, order)), told)


class ChangeRead(unittest.TestCase):
    def test_known(self):
        for change, text in CHANGES:
            self.assertEqual(change_read(text), change)
            self.assertEqual([type(part) for part in change_read(text)], [int, tuple, tuple])
            self.assertTrue(is_change(change_read(text)))

    def test_there_and_back(self):
        for change in some_changes(240, "there"):
            self.assertEqual(change_read(change_text(change)), change)
        for root in ROOTS:
            change = (root, (ONE, (2, 1 if root else 0, 3)), (1, 0))
            self.assertEqual(change_read(change_text(change)), change)

    def test_roots_that_are_none(self):
        for root in range(-3, 120):
            text = f"{root} : 1 1/2 : 1 0"
            if root in ROOTS:
                self.assertEqual(change_read(text), (root, (ONE, (1, 0, 2)), (1, 0)))
            else:
                refused(self, NoText, change_read, text)

    def test_twelve_pieces_and_thirteen(self):
        for many in range(1, 15):
            text = f"5 : {' '.join(['1+1r'] * many)} : {' '.join(map(str, range(many)))}"
            if many <= 12:
                self.assertEqual(change_read(text), (5, ((1, 1, 1),) * many, tuple(range(many))))
            else:
                refused(self, NoText, change_read, text)

    def test_forty_figures(self):
        many = 10 ** 40 - 1
        change = (97, ((many, 0, many - 1), (many, many - 2, many - 4), (-1, many, many - 6)), (2, 1, 0))
        self.assertEqual(change_read(change_text(change)), change)
        wide = (97, ((many, many - 2, many - 4),) * 12, tuple(range(12)))
        self.assertEqual(change_read(change_text(wide)), wide)

    def test_longs_above_0(self):
        # The root of 2 is above 7/5 and below 17/12.
        self.assertEqual(change_read("2 : (-7+5r)/5 : 0"), (2, ((-7, 5, 5),), (0,)))
        refused(self, NoText, change_read, "2 : (7-5r)/5 : 0")
        refused(self, NoText, change_read, "2 : (-17+12r)/12 : 0")
        self.assertEqual(change_read("2 : (17-12r)/12 : 0"), (2, ((17, -12, 12),), (0,)))

    def test_written_otherwise(self):
        for text in NO_CHANGES + NO_NUMBERS:
            refused(self, NoText, change_read, text)
        for text in NO_NUMBERS:
            if not text.startswith(" ") and " " not in text.strip(" "):
                refused(self, NoText, change_read, f"2 : {text} : 0")
                refused(self, NoText, change_read, f"2 : 1 {text} : 0 1")
            refused(self, NoText, change_read, f"{text} : 1 : 0")

    def test_otherwise_by_a_single_sign(self):
        source = Random("signs")
        read = 0
        for _, text in CHANGES:
            for other in changed_by_a_sign(text, source):
                try:
                    change = change_read(other)
                except NoText:
                    continue
                self.assertTrue(is_change(change))
                self.assertEqual(change_text(change), other)
                read += 1
        self.assertGreater(read, 100)

    def test_2000_signs(self):
        for text in ["x" * 2000, " : " * 666, "0 : " + "1 " * 990 + ": 0", "0 : 1 : " + "0 " * 990, "0" * 2000]:
            refused(self, NoText, change_read, text)
        long = "9" * 1990
        self.assertEqual(change_read(f"0 : {long} : 0"), (0, ((int("9" * 1990), 0, 1),), (0,)))

    def test_no_text(self):
        for thing in OTHER_KINDS + [0, 10 ** 39, STILL, GOLDEN, ["0 : 1 : 0"], ("0 : 1 : 0",), {"0 : 1 : 0": 1}]:
            refused(self, NoText, change_read, thing)

    def test_texts_of_numbers(self):
        for _, text in NUMBERS:
            refused(self, NoText, change_read, text)


class Told(unittest.TestCase):
    def test_asked_again(self):
        for number, text in NUMBERS:
            self.assertEqual(number_text(number), number_text(number))
            self.assertEqual(number_read(text), number_read(text))
        for change, text in CHANGES:
            before = repr(change)
            self.assertEqual(change_text(change), change_text(change))
            self.assertEqual(change_read(text), change_read(text))
            self.assertEqual(repr(change), before)


if __name__ == "__main__":
    unittest.main()
