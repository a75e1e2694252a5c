"""[13] The greatest whole number not above a number, and the simplest fraction between two."""

import unittest
from fractions import Fraction
from itertools import combinations
from math import floor, gcd

from cutexchange.errors import NoNumber
from cutexchange.numbers import floor_of, is_number, less, minus, number_of, plus, simplest
from tests.helper import ONE, ROOTS, ZERO, refused, some_numbers, tuple_of, worth


def near_root_2():
    """Fractions (top, bottom) of up to forty figures that come nearer and nearer to the root of 2."""
    found = []
    top, bottom = 1, 1
    while top < 10 ** 40:
        found.append((top, bottom))
        top, bottom = top + 2 * bottom, top + bottom
    return found


class FloorOf(unittest.TestCase):
    def test_told_ones(self):
        for root, one, told in [
            (0, ZERO, 0), (0, (7, 0, 1), 7), (0, (-7, 0, 1), -7), (0, (7, 0, 2), 3), (0, (-7, 0, 2), -4),
            (0, (1, 0, 9), 0), (0, (-1, 0, 9), -1), (2, (0, 1, 1), 1), (2, (0, -1, 1), -2), (2, (0, 1, 2), 0),
            (2, (0, -1, 2), -1), (2, (1, -1, 1), -1), (2, (-1, 1, 1), 0), (2, (3, -2, 1), 0), (2, (-3, 2, 1), -1),
            (5, (1, 1, 2), 1), (5, (1, -1, 2), -1), (5, (7, 3, 2), 6), (99 - 2, (0, 1, 1), 9), (3, (-5, 0, 1), -5),
        ]:
            self.assertEqual(floor_of(root, one), told)
            self.assertIs(type(floor_of(root, one)), int)

    def test_fractions(self):
        for top in range(-30, 31):
            for bottom in range(1, 9):
                if gcd(top, bottom) == 1:
                    for root in (0, 7):
                        self.assertEqual(floor_of(root, (top, 0, bottom)), floor(Fraction(top, bottom)))

    def test_against_worths(self):
        for root in ROOTS:
            for figures in (1, 3, 40):
                for one in some_numbers(root, 30, figures, "floor"):
                    self.assertEqual(floor_of(root, one), floor(worth(root, one)))

    def test_very_near_whole_numbers(self):
        for top, bottom in near_root_2():
            above = top * top > 2 * bottom * bottom
            for whole in (0, 5, -5, 10 ** 30):
                self.assertEqual(floor_of(2, (whole + top, -bottom, 1)), whole if above else whole - 1)
                self.assertEqual(floor_of(2, (whole - top, bottom, 1)), whole - 1 if above else whole)

    def test_around_squares(self):
        for k in [1, 2, 3, 10, 255, 256, 257, 10 ** 20, 10 ** 39, 2 ** 130 - 1]:
            for root in (2, 3, 97):
                told = floor_of(root, (0, k, 1))
                self.assertTrue(told * told < root * k * k < (told + 1) ** 2)
                self.assertEqual(floor_of(root, (0, -k, 1)), -told - 1)

    def test_not_above_and_one_more_is(self):
        for root in ROOTS:
            for one in some_numbers(root, 12, 40, "rest"):
                rest = minus(root, one, (floor_of(root, one), 0, 1))
                self.assertFalse(less(root, rest, ZERO))
                self.assertTrue(less(root, rest, ONE))


class Simplest(unittest.TestCase):
    def test_told_ones(self):
        for root, one, other, told in [
            (0, (0, 0, 1), (1, 0, 1), (1, 0, 2)), (0, (1, 0, 2), (7, 0, 2), (1, 0, 1)),
            (0, (-7, 0, 2), (1, 0, 2), (-3, 0, 1)), (0, (-1, 0, 1), (1, 0, 1), (0, 0, 1)),
            (0, (3, 0, 1), (5, 0, 1), (4, 0, 1)), (0, (3, 0, 1), (4, 0, 1), (7, 0, 2)),
            (0, (-4, 0, 1), (-3, 0, 1), (-7, 0, 2)), (0, (0, 0, 1), (1, 0, 2), (1, 0, 3)),
            (0, (1, 0, 3), (1, 0, 2), (2, 0, 5)), (0, (-1, 0, 2), (-1, 0, 3), (-2, 0, 5)),
            (0, (2, 0, 1), (9, 0, 4), (11, 0, 5)), (0, (7, 0, 4), (2, 0, 1), (9, 0, 5)),
            (2, (7, 0, 5), (0, 1, 1), (24, 0, 17)), (2, (0, 1, 1), (3, 0, 2), (10, 0, 7)),
            (2, (0, -1, 1), (0, 1, 1), (-1, 0, 1)), (5, (0, 1, 3), (1, 1, 4), (3, 0, 4)),
            (0, (-100, 0, 1), (100, 0, 1), (-99, 0, 1)),
        ]:
            self.assertEqual(simplest(root, one, other), told)

    def test_small_fractions_against_all_bottoms(self):
        fractions = sorted({Fraction(top, bottom) for bottom in range(1, 8) for top in range(-15, 16)})
        for one, other in combinations(fractions, 2):
            told = tuple_of(first_between(one, other))
            self.assertEqual(simplest(0, tuple_of(one), tuple_of(other)), told)
            self.assertEqual(simplest(3, tuple_of(one), tuple_of(other)), told)

    def test_roots_against_all_bottoms(self):
        for root in (2, 3, 5, 94):
            numbers = sorted(set(some_numbers(root, 40, 1, "bottoms")), key=lambda n: worth(root, n))
            for one, other in combinations(numbers, 2):
                told = tuple_of(first_between(worth(root, one), worth(root, other)))
                self.assertEqual(simplest(root, one, other), told)

    def test_not_less_is_refused(self):
        for root in ROOTS:
            numbers = sorted(set(some_numbers(root, 8, 40, "not less")), key=lambda n: worth(root, n))
            for one, other in combinations(numbers, 2):
                refused(self, NoNumber, simplest, root, other, one)
            for one in numbers:
                refused(self, NoNumber, simplest, root, one, one)

    def test_forty_figures(self):
        for root in ROOTS:
            numbers = sorted(set(some_numbers(root, 9, 40, "forty")), key=lambda n: worth(root, n))
            for one, other in combinations(numbers, 2):
                self.check(root, one, other)

    def test_small_ones_above_and_below_0(self):
        for bottom in (10 ** 39, 10 ** 40 - 1):
            self.assertEqual(simplest(0, ZERO, (1, 0, bottom)), (1, 0, bottom + 1))
            self.assertEqual(simplest(0, (-1, 0, bottom), ZERO), (-1, 0, bottom + 1))
            self.assertEqual(simplest(0, (1, 0, bottom + 1), (1, 0, bottom)), (2, 0, 2 * bottom + 1))

    def test_near_fractions(self):
        for (top, bottom), (next_top, next_bottom) in zip(near_root_2(), near_root_2()[1:]):
            pair = sorted([(Fraction(top, bottom)), Fraction(next_top, next_bottom)])
            told = self.check(0, tuple_of(pair[0]), tuple_of(pair[1]))
            self.assertEqual(told, (top + next_top, 0, bottom + next_bottom))

    def test_a_root_and_a_near_fraction(self):
        for top, bottom in near_root_2():
            if top * top > 2 * bottom * bottom:
                self.check(2, (0, 1, 1), (top, 0, bottom))
                self.check(2, (-top, 0, bottom), (0, -1, 1))
            else:
                self.check(2, (top, 0, bottom), (0, 1, 1))
                self.check(2, (0, -1, 1), (-top, 0, bottom))

    def test_two_near_numbers_with_a_root(self):
        # What lies between them is less than 1 by a number of eighty figures.
        for top, bottom in near_root_2()[-4:]:
            for under in (1, 7, 10 ** 39 + 3):
                tiny = (top, -bottom) if top * top > 2 * bottom * bottom else (-top, bottom)
                for a, b in [(0, 0), (1, 0), (0, 1), (-5, 3), (10 ** 39, -(10 ** 39) + 7)]:
                    one = number_of(2, a, b, under)
                    self.check(2, one, number_of(2, a + tiny[0], b + tiny[1], under))
                    self.check(2, number_of(2, a - tiny[0], b - tiny[1], under), one)

    def test_neighbours_of_forty_figures(self):
        many = 10 ** 40 - 1
        self.check(0, (many - 2, 0, many - 1), (many - 1, 0, many))
        for root in (2, 61, 97):
            one = number_of(root, many, 3 - many, many - 6)
            other = number_of(root, many - 1, 2 - many, many - 8)
            self.check(root, *((one, other) if worth(root, one) < worth(root, other) else (other, one)))

    def test_the_difference_bounds_it(self):
        for root in (0, 2, 31):
            for one in some_numbers(root, 15, 20, "bounds"):
                self.check(root, one, plus(root, one, (1, 0, 10 ** 39)))

    def check(self, root, one, other):
        """The fractions next to the one told, of lesser bottoms, must lie beyond the two: then none is simpler."""
        told = simplest(root, one, other)
        top, middle, bottom = told
        self.assertTrue(is_number(root, told))
        self.assertEqual(middle, 0)
        low, high = worth(root, one), worth(root, other)
        self.assertTrue(low < worth(0, told) < high)
        if bottom == 1:
            self.assertTrue(top - 1 <= low)
            return told
        left_bottom = pow(top, -1, bottom)
        left_top = (top * left_bottom - 1) // bottom
        self.assertTrue(worth(0, (left_top, 0, left_bottom)) <= low)
        self.assertTrue(high <= worth(0, (top - left_top, 0, bottom - left_bottom)))
        return told


def first_between(one, other):
    """Bottom by bottom, from 1 on, the least fraction above the one, until it is below the other."""
    bottom = 1
    while True:
        top = floor(one * bottom) + 1
        if top < other * bottom:
            return Fraction(top, bottom)
        bottom += 1


if __name__ == "__main__":
    unittest.main()
