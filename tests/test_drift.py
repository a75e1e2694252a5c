"""[4, 5, 7, 81, 82] The drift of changes, turns, and changes crossed."""

import unittest
from fractions import Fraction
from itertools import permutations, product
from math import gcd

from cutexchange.changes import begins_of, came, goes, is_change, moves_of, whole_of
from cutexchange.drift import crossed, drift_of, turn_by
from cutexchange.errors import NoNumber, TooMany, Unlike
from cutexchange.numbers import is_number, minus, plus, times
from cutexchange.returns import back_to, met_long
from cutexchange.steps import is_even, step_of, steps_done, unstepped
from cutexchange.together import behind, is_idle, often, same, slim, undone
from tests.helper import (
    FREE, GOLDEN, HALF, MIXED, ONE, OTHER_KINDS, ROOT, STILL, TWELVE, ZERO, cells_of, change_of_cells, in_other_orders,
    of_cells, parts_of, refused, scaled_change, some_cell_changes, some_changes, some_numbers, some_points, tuple_of,
    worth,
)


def drift_by_pairs(change):
    """The drift, found otherwise: each two pieces that change sides give twice what their longs give together."""
    root, longs, order = change
    drift = Fraction(0)
    for left in range(len(longs)):
        for right in range(left + 1, len(longs)):
            if order.index(left) > order.index(right):
                (a, b), (d, e) = parts_of(longs[left]), parts_of(longs[right])
                drift += 2 * (a * e - b * d)
    return tuple_of(drift)


def turned(drift):
    return minus(0, ZERO, drift)


def undo_cells(cells):
    back = [0] * len(cells)
    for cell, place in enumerate(cells):
        back[place] = cell
    return back


def crossed_cells(one, other):
    """The slim changes on the way, and the last one, found cell by cell."""
    first, then = cells_of(one), cells_of(other)
    now, changes = list(range(len(first))), []
    for by in (first, then, undo_cells(first), undo_cells(then)):
        now = [by[cell] for cell in now]
        changes.append(change_of_cells(now))
    return changes


class DriftOf(unittest.TestCase):
    def test_known(self):
        self.assertEqual(drift_of(STILL), ZERO)
        self.assertEqual(drift_of((2, (ROOT,), (0,))), ZERO)
        self.assertEqual(drift_of(GOLDEN), (2, 0, 1))
        self.assertEqual(drift_of((2, GOLDEN[1][::-1], (1, 0))), (-2, 0, 1))
        self.assertEqual(drift_of((2, GOLDEN[1], (0, 1))), ZERO)
        # Piece 0 gives 2/3 times 2/5 less 0, piece 1 gives 0 less 2/5 times -2/3.
        self.assertEqual(drift_of((7, ((2, 0, 3), (0, 2, 5)), (1, 0))), (8, 0, 15))
        # (1+2r)/3 is moved by (1-r)/4, and that one by less (1+2r)/3; both give -3/12.
        self.assertEqual(drift_of((2, ((1, 2, 3), (-1, 1, 4)), (1, 0))), (1, 0, 2))

    def test_fractions_have_none(self):
        for change in some_cell_changes(36, 50, "drift"):
            self.assertEqual(drift_of(change), ZERO)
        for change in some_changes(120, "drift of fractions"):
            if change[0] == 0:
                self.assertEqual(drift_of(change), ZERO)

    def test_all_orders_of_four(self):
        for order in permutations(range(4)):
            change = (2, FREE[1], order)
            self.assertEqual(drift_of(change), drift_by_pairs(change))

    def test_many(self):
        signs = set()
        for change in some_changes(144, "drift") + [FREE, TWELVE, MIXED]:
            told = drift_of(change)
            self.assertEqual(told, drift_by_pairs(change))
            self.assertIs(is_number(0, told), True)
            self.assertEqual(type(told), tuple)
            signs.add((len(change[1]), (told[0] > 0) - (told[0] < 0)))
        self.assertTrue({(many, sign) for many in range(3, 13) for sign in (1, -1)} <= signs)

    def test_as_the_words_tell(self):
        for change in some_changes(60, "words of 81"):
            drift = Fraction(0)
            for (a, b, c), (d, e, f) in zip(change[1], moves_of(change)):
                drift += Fraction(a * e - b * d, c * f)
            self.assertEqual(drift_of(change), (drift.numerator, 0, drift.denominator))

    def test_a_number_of_the_root_0_in_lowest_terms(self):
        for change in some_changes(60, "lowest") + [FREE, TWELVE]:
            a, b, c = drift_of(change)
            self.assertEqual((b, gcd(a, c)), (0, 1))
            self.assertGreater(c, 0)

    def test_forty_figures(self):
        many = 10 ** 40 - 1
        change = (97, ((many, 0, many - 1), (many, many - 2, many - 4), (-1, many, many - 6)), (2, 1, 0))
        self.assertEqual(drift_of(change), drift_by_pairs(change))
        self.assertEqual(drift_of(undone(change)), turned(drift_of(change)))


class WhatStays(unittest.TestCase):
    def test_behind_one_another(self):
        together = 0
        for change in some_changes(84, "drift behind") + [GOLDEN, FREE, MIXED]:
            for other in in_other_orders(change):
                try:
                    both = behind(change, other)
                except TooMany:
                    continue
                self.assertEqual(drift_of(both), plus(0, drift_of(change), drift_of(other)))
                together += drift_of(change) != ZERO != drift_of(other)
        self.assertGreater(together, 100)

    def test_with_other_cuts(self):
        whole = whole_of(FREE)
        for by in [ZERO, HALF, ROOT, (3, 0, 2), (5, 1, 7), (-1, 1, 1)]:
            turn = turn_by(2, whole, by)
            self.assertEqual(drift_of(behind(FREE, turn)), plus(0, drift_of(FREE), drift_of(turn)))
            self.assertEqual(drift_of(behind(turn, FREE)), plus(0, drift_of(FREE), drift_of(turn)))

    def test_undone(self):
        for change in some_changes(96, "drift undone") + [GOLDEN, FREE, TWELVE, MIXED]:
            self.assertEqual(drift_of(undone(change)), turned(drift_of(change)))

    def test_slim(self):
        for change in some_changes(96, "drift slim") + [(2, FREE[1], (2, 3, 0, 1)), (2, FREE[1], (1, 2, 3, 0))]:
            self.assertEqual(drift_of(slim(change)), drift_of(change))

    def test_often(self):
        for change in (STILL, GOLDEN, turn_by(3, (5, 0, 1), ROOT), (2, FREE[1][:3], (2, 1, 0))):
            for so_often in range(9):
                try:
                    told = often(change, so_often)
                except TooMany:
                    break
                self.assertEqual(drift_of(told), times(0, drift_of(change), (so_often, 0, 1)))
        self.assertEqual(drift_of(often(GOLDEN, 50)), (100, 0, 1))

    def test_returns_from_which_all_is_met(self):
        met, parts = 0, 0
        for change in some_changes(72, "drift returns") + [GOLDEN, FREE, MIXED]:
            root, whole = change[0], whole_of(change)
            for low, high in [(ZERO, HALF), ((1, 0, 5), (3, 0, 5)), (HALF, ONE), ((1, 0, 3), (7, 0, 9)), (ZERO, ONE)]:
                begin, end = times(root, whole, low), times(root, whole, high)
                try:
                    back, words = back_to(change, begin, end)
                except TooMany:
                    continue
                if met_long(change, begin, end) == whole:
                    self.assertEqual(drift_of(back), drift_of(change))
                    met += drift_of(change) != ZERO and (low, high) != (ZERO, ONE)
                else:
                    parts += 1
        self.assertTrue(met > 60 and parts > 0, (met, parts))

    def test_a_return_from_which_not_all_is_met(self):
        back, words = back_to(MIXED, ROOT, whole_of(MIXED))
        self.assertEqual((drift_of(MIXED), drift_of(back)), ((2, 0, 1), ZERO))

    def test_steps(self):
        looked_at = 0
        for change in some_changes(72, "drift steps") + [GOLDEN, FREE, TWELVE]:
            for most in (1, 2, 7, 40):
                self.assertEqual(drift_of(steps_done(change, most)[1]), drift_of(change))
            if not is_even(change):
                self.assertEqual(drift_of(step_of(change)[1]), drift_of(change))
                looked_at += drift_of(change) != ZERO
            if change[2][-1] != len(change[1]) - 1:
                for sort in (0, 1):
                    self.assertEqual(drift_of(unstepped(change, sort)), drift_of(change))
        self.assertGreater(looked_at, 30)

    def test_0_where_all_points_come_back(self):
        for change in some_cell_changes(36, 30, "drift back"):
            self.assertEqual(drift_of(scaled_change(change, 7)), ZERO)
        # Pieces of other kinds of longs that change places with one as long.
        for longs, order in [
            ((ONE, ROOT, ONE, ROOT), (2, 3, 0, 1)), ((ONE, ROOT, ONE), (2, 1, 0)), ((ROOT, ROOT, ONE), (1, 0, 2)),
            ((ONE, (3, 1, 2), ROOT, (3, 1, 2), ONE), (4, 3, 2, 1, 0)),
        ]:
            self.assertEqual(drift_of((2, longs, order)), ZERO)

    def test_0_and_yet_points_do_not_come_back(self):
        change = crossed((2, FREE[1][:3], (2, 1, 0)), (2, FREE[1][:3], (1, 0, 2)))
        self.assertEqual(drift_of(change), ZERO)
        self.assertIs(is_idle(change), False)


class TurnBy(unittest.TestCase):
    def test_known(self):
        self.assertEqual(turn_by(0, ONE, ZERO), STILL)
        self.assertEqual(turn_by(0, ONE, HALF), (0, (HALF, HALF), (1, 0)))
        self.assertEqual(turn_by(0, (5, 0, 1), (2, 0, 1)), of_cells([3, 2], [1, 0]))
        self.assertEqual(turn_by(2, ROOT, (-1, 1, 1)), GOLDEN)
        self.assertEqual(turn_by(2, ROOT, ZERO), (2, (ROOT,), (0,)))
        self.assertEqual(turn_by(2, ROOT, ONE), (2, ((-1, 1, 1), ONE), (1, 0)))

    def test_where_points_go(self):
        looked_at = 0
        for root in (0, 2, 5, 97):
            numbers = [n for n in some_numbers(root, 30, 3, "turns") if worth(root, n) >= 0]
            for whole, by in [(whole, by) for whole in numbers for by in numbers]:
                if worth(root, by) >= worth(root, whole):
                    continue
                change = turn_by(root, whole, by)
                self.assertTrue(is_change(change))
                self.assertEqual((change[0], whole_of(change), slim(change)), (root, whole, change))
                for point in some_points(change):
                    far = plus(root, point, by)
                    to = far if worth(root, far) < worth(root, whole) else minus(root, far, whole)
                    self.assertEqual(goes(change, point), to)
                looked_at += 1
        self.assertGreater(looked_at, 300)

    def test_nearly_nothing_and_nearly_the_whole(self):
        tiny = (1, 0, 10 ** 39)
        for root, whole in [(0, ONE), (2, ROOT), (97, (10 ** 39, 1, 1))]:
            far = minus(root, whole, tiny)
            self.assertEqual(turn_by(root, whole, tiny), (root, (far, tiny), (1, 0)))
            self.assertEqual(turn_by(root, whole, far), (root, (tiny, far), (1, 0)))

    def test_turns_put_together(self):
        for one, other in [(HALF, (1, 0, 3)), ((-1, 1, 1), ONE), ((7, 0, 5), (1, 0, 3)), (ZERO, HALF)]:
            both = plus(2, one, other)
            both = both if worth(2, both) < worth(2, ROOT) else minus(2, both, ROOT)
            self.assertEqual(behind(turn_by(2, ROOT, one), turn_by(2, ROOT, other)), turn_by(2, ROOT, both))

    def test_undone(self):
        self.assertEqual(undone(turn_by(2, ROOT, HALF)), turn_by(2, ROOT, minus(2, ROOT, HALF)))
        self.assertEqual(undone(turn_by(2, ROOT, ZERO)), turn_by(2, ROOT, ZERO))

    def test_refused(self):
        for root, whole in [(0, ONE), (2, ROOT), (0, (10 ** 39, 0, 1)), (3, (1, 0, 10 ** 39))]:
            for thing in OTHER_KINDS + [
                0, 1, 2, "0", whole, plus(root, whole, (1, 0, 10 ** 39)), (-1, 0, 1), (-1, 0, 10 ** 39), (0, 0, 2),
                (2, 0, 2), (1, 0, -2), (0, 0, 0), (False, 0, 1), (0, False, 1), (0, 0, True), [0, 0, 1],
                (10 ** 40 - 1, 0, 1),
            ]:
                refused(self, NoNumber, turn_by, root, whole, thing)
        # Nothing from 0 on is less than what is no whole.
        for thing in OTHER_KINDS + [ZERO, (-1, 0, 1), (0, -1, 1), (2, 0, 2), ROOT, 1]:
            refused(self, NoNumber, turn_by, 0, thing, ZERO)
        refused(self, NoNumber, turn_by, 0, (2, 0, 1), ROOT)
        refused(self, NoNumber, turn_by, 2, (2, 0, 1), (0, -1, 1))
        refused(self, NoNumber, turn_by, 2, (7, 0, 5), ROOT)
        self.assertEqual(turn_by(2, (3, 0, 2), ROOT), (2, ((3, -2, 2), ROOT), (1, 0)))


class Crossed(unittest.TestCase):
    def test_turns_leave_all_where_it_is(self):
        self.assertEqual(crossed(STILL, STILL), STILL)
        self.assertEqual(crossed(GOLDEN, turn_by(2, ROOT, HALF)), (2, (ROOT,), (0,)))
        self.assertEqual(crossed(of_cells([3, 4], [1, 0]), of_cells([5, 2], [1, 0])), of_cells([7], [0]))

    def test_with_itself_undone_and_idle(self):
        for change in some_changes(36, "crossed alike"):
            still = (change[0], (whole_of(change),), (0,))
            self.assertEqual(crossed(change, undone(change)), still)
            self.assertEqual(crossed(undone(change), change), still)
            self.assertEqual(crossed(change, still), still)
            self.assertEqual(crossed(still, change), still)

    def test_known(self):
        # Cell 0 goes by the one to 1, by the other to 2, by the one undone stays, by the other undone to 1.
        one, other = of_cells([1, 1, 1], [1, 0, 2]), of_cells([1, 1, 1], [0, 2, 1])
        self.assertEqual(crossed(one, other), of_cells([2, 1], [1, 0]))
        self.assertEqual(crossed(other, one), of_cells([1, 2], [1, 0]))

    def test_cells(self):
        changes = some_cell_changes(96, 20, "crossed") + some_cell_changes(96, 40, "crossed")
        told, refusals = 0, 0
        for at in range(len(changes)):
            one, other = changes[at], changes[at // 96 * 96 + (at * 7 + 3) % 96]
            wide = [len(change[1]) for change in crossed_cells(one, other)]
            if max(wide) > 12:
                refused(self, TooMany, crossed, one, other)
                refusals += 1
            else:
                self.assertEqual(crossed(one, other), crossed_cells(one, other)[-1])
                told += 1
        self.assertTrue(told > 40 and refusals > 40, (told, refusals))

    def test_too_many_on_the_way_alone(self):
        seen = set()
        for one, other in product(some_cell_changes(60, 18, "way"), some_cell_changes(60, 18, "way too")):
            wide = [len(change[1]) > 12 for change in crossed_cells(one, other)]
            if not wide[-1] and any(wide) and tuple(wide) not in seen:
                seen.add(tuple(wide))
                refused(self, TooMany, crossed, one, other)
        self.assertTrue({(False, True, False, False), (False, False, True, False)} <= seen, seen)

    def test_twelve_pieces_and_thirteen(self):
        sizes = {}
        for one in some_cell_changes(24, 16, "sizes"):
            for other in some_cell_changes(24, 16, "sizes too"):
                wide = [len(change[1]) for change in crossed_cells(one, other)]
                if max(wide[:-1]) <= 12:
                    sizes.setdefault(wide[-1], (one, other))
        for many, (one, other) in sizes.items():
            if many > 12:
                refused(self, TooMany, crossed, one, other)
            else:
                self.assertEqual(len(crossed(one, other)[1]), many)
        self.assertTrue({1, 12, 13} <= set(sizes), sizes)

    def test_with_a_root(self):
        told = 0
        for change in some_changes(84, "crossed root") + [FREE, MIXED]:
            for other in in_other_orders(change):
                try:
                    both = crossed(change, other)
                except TooMany:
                    continue
                told += not is_idle(both)
                self.assertTrue(is_change(both))
                self.assertEqual((both[0], whole_of(both), slim(both)), (change[0], whole_of(change), both))
                self.assertEqual(drift_of(both), ZERO)
                for point in some_points(change) + list(begins_of(both)):
                    self.assertEqual(goes(both, point), came(other, came(change, goes(other, goes(change, point)))))
        self.assertGreater(told, 50)

    def test_turned_about(self):
        for change in some_changes(36, "about"):
            for other in in_other_orders(change):
                try:
                    one_way, other_way = crossed(change, other), crossed(other, change)
                except TooMany:
                    continue
                self.assertTrue(same(undone(one_way), other_way))

    def test_unlike(self):
        for one, other in [
            (GOLDEN, (2, (ONE, ROOT), (1, 0))), (STILL, of_cells([2], [0])), (STILL, (2, (ONE,), (0,))),
            ((2, (ONE,), (0,)), (3, (ONE,), (0,))), (GOLDEN, (3, (ROOT,), (0,))), (GOLDEN, FREE), (FREE, TWELVE),
        ]:
            refused(self, Unlike, crossed, one, other)
            refused(self, Unlike, crossed, other, one)

    def test_unlike_comes_ahead_of_too_many(self):
        one = of_cells([3] * 12, range(11, -1, -1))
        refused(self, TooMany, crossed, one, of_cells([19, 17], [1, 0]))
        refused(self, Unlike, crossed, one, of_cells([19, 18], [1, 0]))
        refused(self, Unlike, crossed, one, (2,) + of_cells([19, 17], [1, 0])[1:])


class Told(unittest.TestCase):
    def test_asked_again(self):
        for change in (STILL, GOLDEN, FREE, TWELVE):
            before = repr(change)
            self.assertEqual(drift_of(change), drift_of(change))
            self.assertEqual(crossed(change, undone(change)), crossed(change, undone(change)))
            whole = whole_of(change)
            self.assertEqual(turn_by(change[0], whole, HALF), turn_by(change[0], whole, HALF))
            self.assertEqual(repr(change), before)


if __name__ == "__main__":
    unittest.main()
