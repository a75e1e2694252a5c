"""[4, 5, 7, 41, 42, 43] Slim changes, changes put behind one another, undone, done so many times; the same ones."""

import unittest
from itertools import permutations

from cutexchange.changes import begins_of, came, goes, is_change, moves_of, whole_of
from cutexchange.errors import NoNumber, TooMany, Unlike
from cutexchange.numbers import times
from cutexchange.together import behind, is_idle, often, same, slim, undone
from cutexchange.walks import after
from tests.helper import (
    FREE, GOLDEN, ONE, OTHER_KINDS, STILL, THREE, TWELVE, ZERO, cells_of, change_of_cells, of_cells, parts_of, refused,
    rising, some_cell_changes, some_changes, some_points, tuple_of,
)


def is_slim(change):
    """Whether no two pieces lie side by side, the left one to the left, ahead of the go and behind it."""
    order = change[2]
    return all(right != left + 1 for left, right in zip(order, order[1:]))


def idle(root, whole):
    return (root, (whole,), (0,))


def split(change, piece):
    """The change with a piece cut into two, a third of it to the left."""
    root, longs, order = change
    left, right = (times(root, longs[piece], (part, 0, 3)) for part in (1, 2))
    moved = []
    for other in order:
        moved += [piece, piece + 1] if other == piece else [other + (other > piece)]
    return (root, longs[:piece] + (left, right) + longs[piece + 1:], tuple(moved))


def of_one_whole(root, pieces, source):
    """Two changes of one whole and so many pieces: the second has the longs of the first in another order."""
    longs = [(1 + (7 * piece + source) % 5, 1 if root else 0, 3) for piece in range(pieces)]
    longs = tuple(tuple_of(*parts_of(long)) for long in longs)
    backward = tuple(reversed(range(pieces)))
    turned = longs[source % pieces:] + longs[:source % pieces]
    return (root, longs, backward[::2] + backward[1::2]), (root, turned, backward)


class Slim(unittest.TestCase):
    def test_known(self):
        one = (0, (ONE, (1, 0, 2), (1, 0, 3)), (1, 2, 0))
        self.assertEqual(slim(one), (0, (ONE, (5, 0, 6)), (1, 0)))
        self.assertEqual(slim((2, (ONE, (0, 1, 1), (1, 1, 1)), (2, 0, 1))), (2, ((1, 1, 1), (1, 1, 1)), (1, 0)))
        self.assertEqual(slim(THREE), (0, ((5, 0, 6), (2, 0, 1)), (1, 0)))
        self.assertEqual(slim(of_cells([1, 2, 3, 4, 5], [3, 4, 0, 1, 2])), of_cells([6, 9], [1, 0]))

    def test_the_right_one_to_the_left_is_slim(self):
        for change in (GOLDEN, FREE, of_cells([1] * 12, range(11, -1, -1)), of_cells([3, 1, 2], [1, 0, 2])):
            self.assertEqual(slim(change), change)

    def test_idle_ones(self):
        for many in range(1, 13):
            self.assertEqual(slim(of_cells([2] * many, range(many))), of_cells([2 * many], [0]))

    def test_all_orders_of_five(self):
        for order in permutations(range(5)):
            change = of_cells([2, 1, 3, 1, 2], order)
            self.assertEqual(slim(change), change_of_cells(cells_of(change)))

    def test_many(self):
        for change in some_changes(72, "slim") + [TWELVE]:
            told = slim(change)
            self.assertTrue(is_change(told) and is_slim(told))
            self.assertEqual((told[0], whole_of(told)), (change[0], whole_of(change)))
            for point in some_points(change) + list(begins_of(told)):
                self.assertEqual(goes(told, point), goes(change, point))
            self.assertEqual(slim(told), told)

    def test_pieces_cut_into_two(self):
        for change in some_changes(11, "split"):
            for piece in range(len(change[1])):
                self.assertEqual(slim(split(change, piece)), slim(change))


class Behind(unittest.TestCase):
    def check(self, one, other):
        """The told change is a slim one that goes as both; told is whether there is one."""
        try:
            told = behind(one, other)
        except TooMany:
            return False
        self.assertTrue(is_change(told) and is_slim(told))
        self.assertEqual((told[0], whole_of(told)), (one[0], whole_of(one)))
        # Between these all three changes move points by one move each, so to look at the cuts is enough.
        cuts = list(begins_of(told)) + list(begins_of(one)) + [came(one, begin) for begin in begins_of(other)]
        for point in cuts + some_points(one):
            self.assertEqual(goes(told, point), goes(other, goes(one, point)))
        return True

    def test_golden(self):
        self.assertEqual(behind(GOLDEN, GOLDEN), (2, ((2, -1, 1), (-2, 2, 1)), (1, 0)))
        self.assertEqual(behind(STILL, STILL), STILL)

    def test_the_first_goes_first(self):
        one, other = of_cells([1, 1, 1], [1, 0, 2]), of_cells([1, 1, 1], [0, 2, 1])
        self.assertEqual(behind(one, other), of_cells([1, 2], [1, 0]))
        self.assertEqual(behind(other, one), of_cells([2, 1], [1, 0]))

    def test_cells(self):
        changes = some_cell_changes(48, 60, "behind")
        told, refusals = 0, 0
        for one, other in zip(changes, changes[5:] + changes[:5]):
            first, then = cells_of(one), cells_of(other)
            both = change_of_cells([then[cell] for cell in first])
            if len(both[1]) > 12:
                refused(self, TooMany, behind, one, other)
                refusals += 1
            else:
                self.assertEqual(behind(one, other), both)
                told += 1
        self.assertTrue(told > 10 and refusals > 10)

    def test_twelve_pieces_and_thirteen(self):
        met = set()
        for at in range(40):
            one, other = of_cells([3] * 12, range(11, -1, -1)), of_cells([at % 33 + 1, 35 - at % 33], [1, 0])
            first, then = cells_of(one), cells_of(other)
            both = change_of_cells([then[cell] for cell in first])
            met.add(len(both[1]))
            if len(both[1]) > 12:
                refused(self, TooMany, behind, one, other)
            else:
                self.assertEqual(behind(one, other), both)
        self.assertTrue({12, 13} <= met)

    def test_with_a_root(self):
        told = 0
        for root in (0, 2, 5, 97):
            for pieces in range(1, 13):
                for source in (1, 2, 3):
                    one, other = of_one_whole(root, pieces, source)
                    told += self.check(one, other) + self.check(other, one) + self.check(one, one)
        self.assertGreater(told, 150)

    def test_with_what_is_undone(self):
        for change in some_changes(36, "undone") + [TWELVE]:
            still = idle(change[0], whole_of(change))
            self.assertEqual(behind(change, undone(change)), still)
            self.assertEqual(behind(undone(change), change), still)

    def test_with_an_idle_one(self):
        for change in some_changes(36, "idle"):
            still = idle(change[0], whole_of(change))
            self.assertEqual(behind(change, still), slim(change))
            self.assertEqual(behind(still, change), slim(change))

    def test_unlike(self):
        wider = (2, (ONE, (0, 1, 1)), (1, 0))
        for one, other in [
            (GOLDEN, wider), (STILL, of_cells([2], [0])), (STILL, (2, (ONE,), (0,))), (THREE, STILL),
            ((2, (ONE,), (0,)), (3, (ONE,), (0,))), (GOLDEN, (3, ((0, 1, 1),), (0,))),
            ((0, ((10 ** 39, 0, 10 ** 39 + 1),), (0,)), STILL),
        ]:
            refused(self, Unlike, behind, one, other)
            refused(self, Unlike, behind, other, one)

    def test_unlike_comes_ahead_of_too_many(self):
        one = of_cells([3] * 12, range(11, -1, -1))
        refused(self, TooMany, behind, one, of_cells([19, 17], [1, 0]))
        refused(self, Unlike, behind, one, of_cells([19, 18], [1, 0]))
        refused(self, Unlike, behind, one, (2,) + of_cells([19, 17], [1, 0])[1:])

    def test_three_put_together_either_way(self):
        for root, rooted in [(0, 0), (3, 1)]:
            longs = ((1, rooted, 2), (2, rooted, 3), (5, rooted, 7))
            one, other, third = [(root, longs, order) for order in [(2, 1, 0), (1, 2, 0), (0, 2, 1)]]
            self.assertEqual(behind(behind(one, other), third), behind(one, behind(other, third)))
        turns = [of_cells([10 - by, by], [1, 0]) for by in (1, 4, 7)]
        self.assertEqual(behind(behind(*turns[:2]), turns[2]), behind(turns[0], behind(*turns[1:])))
        self.assertEqual(behind(*turns[:2]), of_cells([5, 5], [1, 0]))


class Undone(unittest.TestCase):
    def test_known(self):
        self.assertEqual(undone(STILL), STILL)
        self.assertEqual(undone(GOLDEN), (2, ((-1, 1, 1), ONE), (1, 0)))
        self.assertEqual(undone(THREE), (0, ((2, 0, 1), (1, 0, 2), (1, 0, 3)), (1, 2, 0)))
        self.assertEqual(undone(of_cells([1, 2, 3, 4], [2, 0, 3, 1])), of_cells([3, 1, 4, 2], [1, 3, 0, 2]))

    def test_points_go_back(self):
        for change in some_changes(60, "back") + [TWELVE]:
            told = undone(change)
            self.assertTrue(is_change(told))
            self.assertEqual(len(told[1]), len(change[1]))
            for point in some_points(change):
                self.assertEqual(goes(told, goes(change, point)), point)
                self.assertEqual(goes(told, point), came(change, point))
                self.assertEqual(came(told, point), goes(change, point))

    def test_the_pieces_are_the_changes(self):
        for change in some_changes(36, "pieces"):
            root, longs, order = change
            told = undone(change)
            self.assertEqual(told[1], tuple(longs[piece] for piece in order))
            self.assertEqual([order[piece] for piece in told[2]], list(range(len(longs))))

    def test_undone_twice(self):
        for change in some_changes(36, "twice"):
            self.assertEqual(undone(undone(change)), change)


class Often(unittest.TestCase):
    def test_0_times_and_once(self):
        for change in some_changes(36, "once") + [TWELVE]:
            self.assertEqual(often(change, 0), idle(change[0], whole_of(change)))
            self.assertEqual(often(change, 1), slim(change))

    def test_turns_up_to_50_times(self):
        for by, whole in [(1, 7), (3, 100), (49, 50), (10, 37)]:
            change = of_cells([whole - by, by], [1, 0])
            for so_often in range(51):
                turned = by * so_often % whole
                told = of_cells([whole - turned, turned], [1, 0]) if turned else of_cells([whole], [0])
                self.assertEqual(often(change, so_often), told)

    def test_golden_50_times(self):
        told = often(GOLDEN, 50)
        self.assertTrue(is_slim(told))
        self.assertEqual(len(told[1]), 2)
        for point in some_points(GOLDEN) + list(begins_of(told)):
            self.assertEqual(goes(told, point), after(GOLDEN, point, 50))

    def test_cells(self):
        told, refusals = 0, 0
        for change in some_cell_changes(36, 24, "often"):
            cells, now, too_many = cells_of(change), list(range(24)), False
            for so_often in range(8):
                both = change_of_cells(now)
                too_many = too_many or len(both[1]) > 12
                if too_many:
                    refused(self, TooMany, often, change, so_often)
                    refusals += 1
                else:
                    self.assertEqual(often(change, so_often), both)
                    told += 1
                now = [cells[cell] for cell in now]
        self.assertTrue(told > 40 and refusals > 40)

    def test_twelve_pieces_on_the_way(self):
        # Each two pieces that change places are a turn of three cells.
        change = of_cells([2, 1] * 6, [1, 0, 3, 2, 5, 4, 7, 6, 9, 8, 11, 10])
        self.assertEqual(often(change, 2), of_cells([1, 2] * 6, change[2]))
        self.assertEqual(often(change, 3), of_cells([18], [0]))
        self.assertEqual(often(change, 50), of_cells([1, 2] * 6, change[2]))

    def test_too_many_at_fewer_times(self):
        found = 0
        for change in some_cell_changes(120, 16, "fewer"):
            cells, now, wide = cells_of(change), list(range(16)), []
            for _ in range(51):
                wide.append(len(change_of_cells(now)[1]))
                now = [cells[cell] for cell in now]
            if max(wide) > 12 and min(wide[wide.index(max(wide)):]) <= 12:
                later = next(k for k in range(51) if wide[k] <= 12 and max(wide[:k + 1]) > 12)
                refused(self, TooMany, often, change, later)
                found += 1
        self.assertGreater(found, 5)

    def test_with_a_root(self):
        for change in some_changes(36, "powers"):
            for so_often in (2, 3, 5):
                try:
                    told = often(change, so_often)
                except TooMany:
                    continue
                self.assertTrue(is_change(told) and is_slim(told))
                for point in some_points(change) + list(begins_of(told)):
                    self.assertEqual(goes(told, point), after(change, point, so_often))

    def test_refused(self):
        for change in (STILL, GOLDEN, THREE, TWELVE):
            for thing in OTHER_KINDS + [-1, 51, 52, 2000, 10 ** 39, -(10 ** 39), ONE]:
                refused(self, NoNumber, often, change, thing)
        refused(self, TooMany, often, TWELVE, 50)
        refused(self, TooMany, often, TWELVE, 2)


class Same(unittest.TestCase):
    def test_as_itself_slim_and_cut(self):
        for change in some_changes(33, "same"):
            self.assertIs(same(change, change), True)
            self.assertIs(same(change, slim(change)), True)
            self.assertIs(same(slim(change), change), True)
        for change in some_changes(11, "same split"):
            for piece in range(len(change[1])):
                self.assertIs(same(split(change, piece), change), True)
                self.assertIs(same(change, split(change, piece)), True)

    def test_one_root_and_one_whole(self):
        for one, other in [
            (STILL, (2, (ONE,), (0,))), (STILL, of_cells([2], [0])), (GOLDEN, (3,) + GOLDEN[1:]), (THREE, STILL),
            (of_cells([1, 1], [1, 0]), of_cells([2, 2], [1, 0])), (of_cells([2, 1], [0, 1]), of_cells([2], [0])),
        ]:
            self.assertIs(same(one, other), False)
            self.assertIs(same(other, one), False)

    def test_each_point(self):
        for change in some_changes(33, "other"):
            root, longs, order = change
            others = [(root, longs, order[::-1]), (root, longs[::-1], order), undone(change)]
            others.append((root, longs, order[1:] + order[:1]))
            for other in others:
                cuts = rising(root, begins_of(change) + begins_of(other))
                alike = all(goes(change, cut) == goes(other, cut) for cut in cuts)
                self.assertIs(same(change, other), alike)

    def test_all_orders_of_four(self):
        changes = [of_cells([1, 2, 1, 2], order) for order in permutations(range(4))]
        for one in changes:
            for other in changes:
                self.assertIs(same(one, other), cells_of(one) == cells_of(other))


class Idle(unittest.TestCase):
    def test_known(self):
        self.assertIs(is_idle(STILL), True)
        self.assertIs(is_idle(GOLDEN), False)
        self.assertIs(is_idle((2, GOLDEN[1], (0, 1))), True)
        self.assertIs(is_idle(of_cells([1, 1], [1, 0])), False)

    def test_orders(self):
        for change in some_changes(36, "idle"):
            root, longs, order = change
            self.assertIs(is_idle((root, longs, tuple(range(len(longs))))), True)
            self.assertIs(is_idle(change), set(moves_of(change)) == {ZERO})
        for order in permutations(range(4)):
            self.assertIs(is_idle(of_cells([1, 1, 1, 1], order)), order == (0, 1, 2, 3))

    def test_last_one_stays(self):
        self.assertIs(is_idle(of_cells([1] * 12, [*range(10), 11, 10])), False)
        self.assertIs(is_idle(of_cells([1] * 12, [1, 0, *range(2, 12)])), False)


class Told(unittest.TestCase):
    def test_asked_again(self):
        for change in some_changes(24, "again"):
            before = repr(change)
            for ask in (slim, undone, is_idle):
                self.assertEqual(ask(change), ask(change))
            self.assertEqual(same(change, undone(change)), same(change, undone(change)))
            self.assertEqual(behind(change, undone(change)), behind(change, undone(change)))
            self.assertEqual(often(change, 1), often(change, 1))
            self.assertEqual(repr(change), before)

    def test_forty_figures(self):
        many = 10 ** 40 - 1
        change = (97, ((many, 0, many - 1), (many, many - 2, many - 4), (-1, many, many - 6)), (2, 1, 0))
        self.assertTrue(is_change(change))
        whole = whole_of(change)
        self.assertEqual(behind(change, undone(change)), idle(97, whole))
        told = often(change, 3)
        for point in some_points(change) + list(begins_of(told)):
            self.assertEqual(goes(told, point), after(change, point, 3))
        self.assertEqual(whole_of(told), whole)


if __name__ == "__main__":
    unittest.main()
