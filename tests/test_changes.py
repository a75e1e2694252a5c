"""[2, 6, 21] What a change is, its whole, begins and moves, and how its pieces lie behind a go."""

import copy
import unittest
from fractions import Fraction
from itertools import permutations

from cutexchange.changes import begins_of, is_change, laid_of, moves_of, whole_of
from tests.helper import GOLDEN, HALF, ONE, OTHER_KINDS, ROOT, ROOTS, THREE, ZERO, parts_of, some_changes, tuple_of


def of_pieces(many, root=0):
    return (root, (ONE,) * many, tuple(range(many)))


class IsChange(unittest.TestCase):
    def test_changes(self):
        for thing in [GOLDEN, THREE, of_pieces(1), (0, (HALF,), (0,)), (97, ((0, 1, 40), ROOT), (0, 1))]:
            self.assertIs(is_change(thing), True)

    def test_all_samples(self):
        for change in some_changes(60, "is"):
            self.assertIs(is_change(change), True)

    def test_other_kinds(self):
        for thing in OTHER_KINDS + [0, 1, -1, (0, 0, 1), "2 : 1 -1+1r : 1 0"]:
            self.assertIs(is_change(thing), False)

    def test_another_kind_in_each_place(self):
        for thing in OTHER_KINDS + [-1, 100, 10 ** 39]:
            self.assertIs(is_change((thing, (ONE,), (0,))), False)
            self.assertIs(is_change((0, thing, (0,))), thing == (ONE,))
            self.assertIs(is_change((0, (ONE,), thing)), False)
            self.assertIs(is_change((0, (ONE, thing), (1, 0))), False)
            self.assertIs(is_change((0, (ONE, ONE), (0, thing))), False)

    def test_a_part_more_or_fewer(self):
        self.assertIs(is_change(GOLDEN + (0,)), False)
        self.assertIs(is_change(GOLDEN[:2]), False)
        self.assertIs(is_change((GOLDEN,)), False)

    def test_roots(self):
        for root in range(-5, 130):
            self.assertIs(is_change((root, (ONE,), (0,))), root in ROOTS)
        for root in [1, 4, 12, 50, 98, 99, 100, 101, 10 ** 39, True, False, "2", "", None, (2,), [2]]:
            self.assertIs(is_change((root, (ONE,), (0,))), False)

    def test_longs_not_above_0(self):
        for root, long in [(0, ZERO), (0, (-1, 0, 1)), (2, ZERO), (2, (1, -1, 1)), (2, (0, -1, 1)), (2, (-3, 2, 1))]:
            self.assertIs(is_change((root, (long,), (0,))), False)
            self.assertIs(is_change((root, (ONE, long), (1, 0))), False)
            self.assertIs(is_change((root, (long, ONE), (1, 0))), False)

    def test_longs_that_are_no_numbers_of_the_root(self):
        for root, long in [
            (0, (2, 0, 2)), (0, (0, 1, 1)), (0, (1, 1, 1)), (2, (2, 2, 2)), (2, (1, 0, -1)), (2, (1, 0, 0)),
            (2, (True, 0, 1)), (2, (1, False, 1)), (2, [1, 0, 1]), (2, (1, 0)), (2, (1, 0, 1, 1)), (2, "1"), (2, 1),
        ]:
            self.assertIs(is_change((root, (long,), (0,))), False)
            self.assertIs(is_change((root, (ONE, long), (1, 0))), False)

    def test_how_many_pieces(self):
        for many in range(1, 13):
            self.assertIs(is_change(of_pieces(many)), True)
            self.assertIs(is_change(of_pieces(many, 2)), True)
        for many in (0, 13, 14, 40):
            self.assertIs(is_change(of_pieces(many)), False)

    def test_lists_for_tuples(self):
        root, longs, order = THREE
        for thing in [
            [root, longs, order], (root, list(longs), order), (root, longs, list(order)),
            (root, tuple(list(long) for long in longs), order), (root, dict(enumerate(longs)), order),
        ]:
            self.assertIs(is_change(thing), False)

    def test_all_orders_of_three(self):
        for order in permutations(range(3)):
            self.assertIs(is_change((0, THREE[1], order)), True)

    def test_orders_that_are_none(self):
        for order in [
            (), (0, 1), (0, 1, 2, 3), (0, 1, 1), (0, 0, 0), (0, 1, 3), (1, 2, 3), (-1, 0, 1), (0, 1, -1), (0, 2, 2),
            (0, True, 2), (False, 1, 2), (2, True, False), (0, 1, "2"), (0, 1, None), (0, 1, (2,)), ((0, 1, 2),),
            (0, 1, 2, 2), (0, 1, 10 ** 39),
        ]:
            self.assertIs(is_change((0, THREE[1], order)), False)
        self.assertIs(is_change((0, (ONE,), (False,))), False)
        self.assertIs(is_change((0, (ONE,), (1,))), False)

    def test_what_is_handed_in_stays(self):
        for thing in [[0, [[1, 0, 1]], [0]], (0, [ONE, {"k": [1]}], [1, 0]), (0, (ONE, ONE), ([1], 0))]:
            before = copy.deepcopy(thing)
            is_change(thing)
            self.assertEqual(thing, before)


class Told(unittest.TestCase):
    def test_golden(self):
        self.assertEqual(whole_of(GOLDEN), ROOT)
        self.assertEqual(begins_of(GOLDEN), (ZERO, ONE))
        self.assertEqual(moves_of(GOLDEN), ((-1, 1, 1), (-1, 0, 1)))
        self.assertEqual(laid_of(GOLDEN), [(1, ZERO), (0, (-1, 1, 1))])

    def test_three(self):
        self.assertEqual(whole_of(THREE), (17, 0, 6))
        self.assertEqual(begins_of(THREE), (ZERO, (1, 0, 2), (5, 0, 6)))
        self.assertEqual(moves_of(THREE), ((2, 0, 1), (2, 0, 1), (-5, 0, 6)))
        self.assertEqual(laid_of(THREE), [(2, ZERO), (0, (2, 0, 1)), (1, (5, 0, 2))])

    def test_one_piece(self):
        change = (3, ((0, 1, 2),), (0,))
        self.assertEqual(whole_of(change), (0, 1, 2))
        self.assertEqual(begins_of(change), (ZERO,))
        self.assertEqual(moves_of(change), (ZERO,))
        self.assertEqual(laid_of(change), [(0, ZERO)])

    def test_put_together_from_the_longs(self):
        for root, longs, order in some_changes(120, "told"):
            change = (root, longs, order)
            begins = [together(longs[:piece]) for piece in range(len(longs))]
            laid = [(piece, together([longs[p] for p in order[:at]])) for at, piece in enumerate(order)]
            self.assertEqual(whole_of(change), tuple_of(*together(longs)))
            self.assertEqual(begins_of(change), tuple(tuple_of(*begin) for begin in begins))
            self.assertEqual(laid_of(change), [(piece, tuple_of(*begin)) for piece, begin in laid])
            moves = [None] * len(longs)
            for piece, (plain, rooted) in laid:
                moves[piece] = tuple_of(plain - begins[piece][0], rooted - begins[piece][1])
            self.assertEqual(moves_of(change), tuple(moves))

    def test_kinds_of_values(self):
        for change in some_changes(12, "kinds"):
            for told in (begins_of(change), moves_of(change), whole_of(change), *laid_of(change)):
                self.assertIs(type(told), tuple)
            self.assertIs(type(laid_of(change)), list)

    def test_moves_by_longs_are_0_together(self):
        for root, longs, order in some_changes(120, "balance"):
            plain, rooted = Fraction(0), Fraction(0)
            for long, move in zip(longs, moves_of((root, longs, order))):
                (a, b), (d, e) = parts_of(long), parts_of(move)
                plain, rooted = plain + a * d + root * b * e, rooted + a * e + b * d
            self.assertEqual((plain, rooted), (0, 0))

    def test_the_list_is_new_and_the_askers_own(self):
        for change in (GOLDEN, THREE, of_pieces(12)):
            before = copy.deepcopy(change)
            first = laid_of(change)
            kept = list(first)
            self.assertIsNot(laid_of(change), first)
            first.clear()
            first.append("else")
            self.assertEqual(laid_of(change), kept)
            self.assertEqual(change, before)

    def test_asked_again(self):
        for change in some_changes(24, "again"):
            for ask in (whole_of, begins_of, moves_of, laid_of, is_change):
                self.assertEqual(ask(change), ask(change))

    def test_forty_figures(self):
        many = 10 ** 40 - 1
        change = (97, ((many, 0, many - 1), (many, many - 2, many - 4), (-1, many, many - 6)), (2, 1, 0))
        self.assertTrue(is_change(change))
        self.assertEqual(whole_of(change), tuple_of(*together(change[1])))
        self.assertEqual(laid_of(change)[2], (0, tuple_of(*together(change[1][1:]))))


def together(longs):
    """The parts of the sum of some longs."""
    return sum((parts_of(n)[0] for n in longs), Fraction(0)), sum((parts_of(n)[1] for n in longs), Fraction(0))


if __name__ == "__main__":
    unittest.main()
