"""[2, 11, 12] Numbers with a root, and what is reckoned with them; [7] the rules that hold together."""

import unittest
from fractions import Fraction
from itertools import product
from math import gcd

from cutexchange.errors import NoNumber
from cutexchange.numbers import is_number, less, minus, number_of, over, plus, times
from tests.helper import ONE, OTHER_KINDS, ROOTS, ZERO, parts_of, refused, some_numbers, tuple_of, worth

NUMBER_ROOTS = (0, 2, 3, 6, 97)


class NumberOf(unittest.TestCase):
    def test_lowest_terms_at_root_0(self):
        for handed, told in [
            ((1, 0, 1), (1, 0, 1)), ((6, 0, 4), (3, 0, 2)), ((6, 0, -4), (-3, 0, 2)), ((-6, 0, -4), (3, 0, 2)),
            ((-6, 0, 4), (-3, 0, 2)), ((7, 0, 9), (7, 0, 9)), ((0, 0, 5), ZERO), ((0, 0, -5), ZERO),
            ((5, 0, 5), ONE), ((5, 0, -1), (-5, 0, 1)),
        ]:
            self.assertEqual(number_of(0, *handed), told)

    def test_lowest_terms_at_other_roots(self):
        for handed, told in [
            ((2, 4, 6), (1, 2, 3)), ((2, 4, -6), (-1, -2, 3)), ((2, 3, 4), (2, 3, 4)), ((3, 6, 4), (3, 6, 4)),
            ((0, 6, 4), (0, 3, 2)), ((0, -6, -4), (0, 3, 2)), ((6, 0, 4), (3, 0, 2)), ((-2, 4, -2), (1, -2, 1)),
            ((0, 0, -7), ZERO), ((4, 6, 9), (4, 6, 9)), ((6, 10, 15), (6, 10, 15)), ((12, 20, -30), (-6, -10, 15)),
        ]:
            for root in (2, 15, 97):
                self.assertEqual(number_of(root, *handed), told)

    def test_all_small_ones_at_all_roots(self):
        for root in ROOTS:
            for a, b, c in product(range(-4, 5), range(-3, 4), range(-4, 5)):
                if c == 0 or (root == 0 and b != 0):
                    refused(self, NoNumber, number_of, root, a, b, c)
                    continue
                told = number_of(root, a, b, c)
                self.assertEqual(told, tuple_of(Fraction(a, c), Fraction(b, c)))
                self.assertTrue(is_number(root, told))

    def test_forty_figures(self):
        a, b, c = 10 ** 40 - 2, 6 * 10 ** 39, -(10 ** 40 - 4)
        self.assertEqual(number_of(2, a, b, c), (-a // 2, -b // 2, -c // 2))
        self.assertEqual(number_of(0, 10 ** 39, 0, -(10 ** 39)), (-1, 0, 1))

    def test_no_whole_numbers_are_refused(self):
        for root in (0, 2):
            for thing in OTHER_KINDS:
                refused(self, NoNumber, number_of, root, thing, 0, 1)
                refused(self, NoNumber, number_of, root, 1, thing, 1)
                refused(self, NoNumber, number_of, root, 1, 0, thing)
                refused(self, NoNumber, number_of, root, thing, thing, thing)

    def test_bottom_0_is_refused(self):
        for root in (0, 2, 97):
            refused(self, NoNumber, number_of, root, 1, 0, 0)
            refused(self, NoNumber, number_of, root, 0, 0, 0)
            refused(self, NoNumber, number_of, root, 1, 1, 0)

    def test_root_part_at_root_0_is_refused(self):
        for b in (1, -1, 10 ** 39):
            refused(self, NoNumber, number_of, 0, 1, b, 1)
            refused(self, NoNumber, number_of, 0, 0, b, b)


class IsNumber(unittest.TestCase):
    def test_numbers(self):
        for root, thing in [
            (0, ZERO), (0, (3, 0, 2)), (0, (-3, 0, 2)), (0, (10 ** 39, 0, 10 ** 39 + 1)), (2, ZERO), (2, (0, 1, 1)),
            (2, (0, -1, 2)), (2, (2, 4, 1)), (2, (2, 4, 3)), (2, (4, 3, 2)), (97, (6, 10, 15)), (2, (2, 0, 3)),
        ]:
            self.assertIs(is_number(root, thing), True)

    def test_other_kinds(self):
        for root in (0, 2):
            for thing in OTHER_KINDS + [0, 1, -1, 10 ** 39]:
                self.assertIs(is_number(root, thing), False)

    def test_a_part_more_or_fewer(self):
        for thing in [(1, 1), (1, 0, 1, 0), (1, 0, 1, 1), (0, 0, 1, 1, 1), ((1, 0, 1), 0, 1)]:
            self.assertIs(is_number(2, thing), False)

    def test_a_truth_among_the_parts(self):
        for thing in [(True, 0, 1), (1, False, 1), (1, 0, True), (False, 0, 1), (1, True, 1), (True, True, True)]:
            self.assertIs(is_number(2, thing), False)
            self.assertIs(is_number(0, thing), False)

    def test_another_kind_among_the_parts(self):
        for thing in OTHER_KINDS:
            for parts in [(thing, 0, 1), (1, thing, 1), (1, 0, thing)]:
                self.assertIs(is_number(0, parts), False)
                self.assertIs(is_number(2, parts), False)

    def test_not_in_lowest_terms(self):
        for thing in [(2, 0, 2), (0, 0, 2), (3, 0, 9), (2, 4, 6), (0, 3, 3), (10, 0, 5), (-2, 2, 2)]:
            self.assertIs(is_number(2, thing), False)
        for thing in [(2, 0, 2), (0, 0, 2), (3, 0, 9), (-4, 0, 6)]:
            self.assertIs(is_number(0, thing), False)

    def test_bottom_0_or_below(self):
        for thing in [(1, 0, 0), (0, 0, 0), (1, 0, -1), (3, 0, -2), (-1, 0, -2)]:
            self.assertIs(is_number(0, thing), False)
            self.assertIs(is_number(2, thing), False)
        self.assertIs(is_number(2, (1, 1, -1)), False)
        self.assertIs(is_number(2, (1, 1, 0)), False)

    def test_root_part_at_root_0(self):
        for thing in [(1, 1, 1), (0, 1, 1), (0, -1, 2)]:
            self.assertIs(is_number(0, thing), False)
            self.assertIs(is_number(3, thing), True)

    def test_all_small_tuples(self):
        for thing in product(range(-4, 5), range(-3, 4), range(-2, 5)):
            lowest = thing[2] >= 1 and gcd(*thing) == 1
            self.assertIs(is_number(2, thing), lowest)
            self.assertIs(is_number(0, thing), lowest and thing[1] == 0)

    def test_what_is_handed_in_stays(self):
        thing = [1, [0], {"k": [1]}]
        is_number(2, thing)
        self.assertEqual(thing, [1, [0], {"k": [1]}])


class Reckoning(unittest.TestCase):
    def test_told_ones(self):
        root_2 = (0, 1, 1)
        self.assertEqual(plus(2, (1, 1, 2), (1, -1, 2)), (1, 0, 1))
        self.assertEqual(plus(0, (1, 0, 6), (1, 0, 3)), (1, 0, 2))
        self.assertEqual(minus(2, (1, 0, 2), root_2), (1, -2, 2))
        self.assertEqual(minus(2, root_2, root_2), ZERO)
        self.assertEqual(times(2, root_2, root_2), (2, 0, 1))
        self.assertEqual(times(2, (1, 1, 1), (1, -1, 1)), (-1, 0, 1))
        self.assertEqual(times(3, (0, 1, 1), (0, -1, 2)), (-3, 0, 2))
        self.assertEqual(over(2, ONE, root_2), (0, 1, 2))
        self.assertEqual(over(2, ONE, (1, -1, 1)), (-1, -1, 1))
        self.assertEqual(over(0, (-1, 0, 2), (-3, 0, 4)), (2, 0, 3))
        self.assertEqual(over(5, ZERO, (-3, 1, 4)), ZERO)

    def test_against_parts(self):
        for root, (one, other) in pairs():
            (a, b), (d, e) = parts_of(one), parts_of(other)
            self.assertEqual(plus(root, one, other), tuple_of(a + d, b + e))
            self.assertEqual(minus(root, one, other), tuple_of(a - d, b - e))
            self.assertEqual(times(root, one, other), tuple_of(a * d + root * b * e, a * e + b * d))
            if other != ZERO:
                norm = d * d - root * e * e
                told = tuple_of((a * d - root * b * e) / norm, (b * d - a * e) / norm)
                self.assertEqual(over(root, one, other), told)

    def test_over_by_0_is_refused(self):
        for root in ROOTS:
            for one in some_numbers(root, 6, 40, "over"):
                refused(self, NoNumber, over, root, one, ZERO)

    def test_rules_of_two(self):
        for root, (one, other) in pairs():
            self.assertEqual(plus(root, one, other), plus(root, other, one))
            self.assertEqual(times(root, one, other), times(root, other, one))
            self.assertEqual(plus(root, minus(root, one, other), other), one)
            self.assertEqual(minus(root, plus(root, one, other), other), one)
            self.assertEqual(plus(root, minus(root, one, other), minus(root, other, one)), ZERO)
            if other != ZERO:
                self.assertEqual(times(root, over(root, one, other), other), one)
                self.assertEqual(over(root, times(root, one, other), other), one)
                self.assertEqual(over(root, other, other), ONE)

    def test_rules_with_0_and_1(self):
        for root in ROOTS:
            for one in some_numbers(root, 12, 40, "0 and 1"):
                self.assertEqual(plus(root, one, ZERO), one)
                self.assertEqual(minus(root, one, ZERO), one)
                self.assertEqual(minus(root, one, one), ZERO)
                self.assertEqual(times(root, one, ONE), one)
                self.assertEqual(times(root, one, ZERO), ZERO)
                self.assertEqual(over(root, one, ONE), one)

    def test_rules_of_three(self):
        for root in NUMBER_ROOTS:
            for one, other, third in product(some_numbers(root, 8, 6, "three"), repeat=3):
                self.assertEqual(plus(root, plus(root, one, other), third), plus(root, one, plus(root, other, third)))
                self.assertEqual(times(root, times(root, one, other), third),
                                 times(root, one, times(root, other, third)))
                self.assertEqual(times(root, plus(root, one, other), third),
                                 plus(root, times(root, one, third), times(root, other, third)))

    def test_what_is_told_is_a_number(self):
        for root, (one, other) in pairs():
            for action in (plus, minus, times):
                self.assertTrue(is_number(root, action(root, one, other)))
            if other != ZERO:
                self.assertTrue(is_number(root, over(root, one, other)))


class Less(unittest.TestCase):
    def test_told_ones(self):
        for root, one, other in [
            (0, (1, 0, 3), (1, 0, 2)), (0, (-1, 0, 2), (-1, 0, 3)), (0, (-1, 0, 9), ZERO), (0, ZERO, (1, 0, 9)),
            (2, (7, 0, 5), (0, 1, 1)), (2, (0, 1, 1), (3, 0, 2)), (2, (0, -1, 1), (-7, 0, 5)), (2, (0, -1, 1), ZERO),
            (2, ZERO, (-1, 1, 1)), (2, (1, -1, 1), ZERO), (2, ZERO, (3, -2, 1)), (2, (-3, 2, 1), ZERO),
            (2, (-1, -1, 1), (1, 1, 1)), (3, (0, 1, 2), (0, 2, 3)), (97, (0, -1, 1), (0, 1, 1)),
        ]:
            self.assertIs(less(root, one, other), True)
            self.assertIs(less(root, other, one), False)

    def test_alike_ones_are_not_less(self):
        for root in ROOTS:
            for one in some_numbers(root, 12, 40, "alike"):
                self.assertIs(less(root, one, one), False)

    def test_against_worths(self):
        for root, (one, other) in pairs():
            self.assertIs(less(root, one, other), worth(root, one) < worth(root, other))

    def test_near_ones(self):
        # The tops and bottoms come nearer and nearer to the root of 2, from either side in turn.
        top, bottom = 1, 1
        while bottom < 10 ** 39:
            above = top * top > 2 * bottom * bottom
            self.assertIs(less(2, (0, 1, 1), (top, 0, bottom)), above)
            self.assertIs(less(2, (top, 0, bottom), (0, 1, 1)), not above)
            self.assertIs(less(2, (top, -bottom, 1), ZERO), not above)
            self.assertIs(less(2, (-top, bottom, 1), ZERO), above)
            top, bottom = top + 2 * bottom, top + bottom

    def test_just_one_of_two_unlike_is_less(self):
        for root, (one, other) in pairs():
            if one != other:
                self.assertNotEqual(less(root, one, other), less(root, other, one))

    def test_less_goes_with_the_difference(self):
        for root, (one, other) in pairs():
            self.assertIs(less(root, one, other), less(root, minus(root, one, other), ZERO))
            self.assertIs(less(root, one, other), less(root, ZERO, minus(root, other, one)))

    def test_less_goes_on_and_stays_by_sums(self):
        for root in NUMBER_ROOTS:
            for one, other, third in product(some_numbers(root, 9, 5, "on"), repeat=3):
                if less(root, one, other) and less(root, other, third):
                    self.assertTrue(less(root, one, third))
                self.assertIs(less(root, plus(root, one, third), plus(root, other, third)), less(root, one, other))
                if less(root, ZERO, third):
                    self.assertIs(less(root, times(root, one, third), times(root, other, third)),
                                  less(root, one, other))


def pairs():
    """Roots with two numbers each, of few figures and of many."""
    for root in ROOTS:
        for figures in (1, 40):
            for pair in product(some_numbers(root, 7, figures, "pairs"), repeat=2):
                yield root, pair


if __name__ == "__main__":
    unittest.main()
