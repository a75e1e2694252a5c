"""[4, 5, 91] Where changes part, into which changes, and changes laid side by side."""

import unittest
from itertools import permutations

from cutexchange.changes import begins_of, goes, is_change, whole_of
from cutexchange.errors import NoChange, TooMany, Unlike
from cutexchange.numbers import minus, plus
from cutexchange.parts import parted, parts_at, side_by_side
from cutexchange.together import undone
from tests.helper import (
    GOLDEN, HALF, MIXED, ONE, OTHER_KINDS, ROOT, STILL, TWELVE, ZERO, new_each_time, of_cells, refused,
    some_cell_changes, some_changes, some_points, turns, worth,
)

TURN = (0, (HALF, HALF), (1, 0))
SIX = turns(3, 3, 3, 3, 3, 3)


def never_mixed(change):
    """The pieces, not the first one, whose begins no piece crosses: those to the left stay there, by their points."""
    root, begins = change[0], begins_of(change)
    found = []
    for piece in range(1, len(begins)):
        edge = worth(root, begins[piece])
        if all((worth(root, p) < edge) == (worth(root, goes(change, p)) < edge) for p in some_points(change)):
            found.append(piece)
    return found


class PartsAt(unittest.TestCase):
    def test_known(self):
        self.assertEqual(parts_at(STILL), [])
        self.assertEqual(parts_at(GOLDEN), [])
        self.assertEqual(parts_at(TWELVE), [])
        self.assertEqual(parts_at((2, GOLDEN[1], (0, 1))), [1])
        self.assertEqual(parts_at(MIXED), [2, 4])
        self.assertEqual(parts_at(SIX), [2, 4, 6, 8, 10])
        self.assertEqual(parts_at(of_cells([1] * 12, range(12))), list(range(1, 12)))
        self.assertEqual(parts_at(of_cells([1] * 12, [*range(1, 12), 0])), [])

    def test_longs_do_not_matter(self):
        # The pieces below piece 1 come to just as much, but are others.
        self.assertEqual(parts_at(of_cells([1, 1], [1, 0])), [])
        self.assertEqual(parts_at(of_cells([1, 2, 3], [2, 0, 1])), [])
        self.assertEqual(parts_at(of_cells([3, 1, 2, 1], [1, 2, 0, 3])), [3])

    def test_all_orders_of_five(self):
        for order in permutations(range(5)):
            change = of_cells([3, 1, 4, 1, 5], order)
            told = [piece for piece in range(1, 5) if set(order[:piece]) == set(range(piece))]
            self.assertEqual(parts_at(change), told)
            self.assertEqual(told, never_mixed(change))

    def test_many(self):
        for change in some_changes(72, "parts"):
            self.assertEqual(parts_at(change), never_mixed(change))

    def test_undone_it_parts_alike(self):
        for change in [MIXED, SIX] + some_changes(36, "parts undone"):
            self.assertEqual(parts_at(undone(change)), parts_at(change))


class Parted(unittest.TestCase):
    def test_known(self):
        self.assertEqual(parted(STILL), [STILL])
        self.assertEqual(parted(GOLDEN), [GOLDEN])
        self.assertEqual(parted(TWELVE), [TWELVE])
        self.assertEqual(parted(MIXED), [GOLDEN, (2, (HALF, HALF), (1, 0)), (2, (ROOT,), (0,))])
        self.assertEqual(parted(SIX), [turns(3)] * 6)
        self.assertEqual(parted(of_cells(range(1, 13), range(12))), [of_cells([many], [0]) for many in range(1, 13)])
        self.assertEqual(parted(of_cells([1, 2, 3, 4], [0, 3, 1, 2])), [STILL, of_cells([2, 3, 4], [2, 0, 1])])

    def test_points_go_as_they_did(self):
        for change in [MIXED, SIX, (2, MIXED[1], (0, 2, 1, 4, 3))] + some_changes(48, "parted"):
            root, changes = change[0], parted(change)
            self.assertEqual(len(changes), len(parts_at(change)) + 1)
            begin = ZERO
            for part in changes:
                self.assertTrue(is_change(part))
                self.assertEqual((part[0], parts_at(part)), (root, []))
                for point in some_points(part):
                    self.assertEqual(plus(root, begin, goes(part, point)), goes(change, plus(root, begin, point)))
                begin = plus(root, begin, whole_of(part))
            self.assertEqual(begin, whole_of(change))

    def test_pieces_are_not_put_together(self):
        change = of_cells([1, 2, 3, 4, 5], [1, 2, 0, 3, 4])
        self.assertEqual(parted(change), [of_cells([1, 2, 3], [1, 2, 0]), of_cells([4], [0]), of_cells([5], [0])])


class SideBySide(unittest.TestCase):
    def test_known(self):
        self.assertEqual(side_by_side([GOLDEN, (2, (HALF, HALF), (1, 0)), (2, (ROOT,), (0,))]), MIXED)
        self.assertEqual(side_by_side([turns(3)] * 6), SIX)
        self.assertEqual(side_by_side([of_cells([2, 3, 4], [2, 0, 1]), STILL]), of_cells([2, 3, 4, 1], [2, 0, 1, 3]))

    def test_one_change(self):
        for change in [STILL, GOLDEN, TWELVE, MIXED] + some_changes(24, "one"):
            self.assertEqual(side_by_side([change]), change)

    def test_twelve_changes(self):
        changes = [of_cells([many], [0]) for many in range(1, 13)]
        self.assertEqual(side_by_side(changes), of_cells(range(1, 13), range(12)))
        rooted = [(5, ((many, 1, 2),), (0,)) for many in range(0, 24, 2)]
        self.assertEqual(side_by_side(rooted), (5, tuple((many, 1, 2) for many in range(0, 24, 2)), tuple(range(12))))

    def test_there_and_back(self):
        for change in [MIXED, SIX, TWELVE, STILL] + some_changes(60, "there") + some_cell_changes(24, 40, "there"):
            self.assertEqual(side_by_side(parted(change)), change)
        for order in permutations(range(5)):
            change = of_cells([3, 1, 4, 1, 5], order)
            self.assertEqual(side_by_side(parted(change)), change)

    def test_back_and_there(self):
        whole_ones = [change for change in some_changes(120, "back") if not parts_at(change) and len(change[1]) < 7]
        by_root = {}
        for change in whole_ones:
            by_root.setdefault(change[0], []).append(change)
        looked_at = 0
        for changes in by_root.values():
            for one, other in zip(changes, changes[1:]):
                both = side_by_side([one, other])
                self.assertTrue(is_change(both))
                self.assertEqual(parted(both), [one, other])
                self.assertEqual(parts_at(both), [len(one[1])])
                for point in some_points(other):
                    laid = plus(one[0], whole_of(one), point)
                    self.assertEqual(minus(one[0], goes(both, laid), whole_of(one)), goes(other, point))
                looked_at += 1
        self.assertGreater(looked_at, 20)

    def test_no_list_of_changes(self):
        for thing in OTHER_KINDS + [
            0, 1, STILL, (STILL,), (STILL, STILL), {0: STILL}, {STILL: 1}, "0 : 1 : 0", [[STILL]], [(STILL,)],
            [list(STILL)], [(0, [ONE], (0,))], [(0, (ONE,), [0])], [(True, (ONE,), (0,))], [(0, (ONE,), (False,))],
            [(0, ((True, 0, 1),), (0,))], [(4, (ONE,), (0,))], [(0, (ROOT,), (0,))], [(0, ((2, 0, 2),), (0,))],
            [(0, (ZERO,), (0,))], [(2, ((1, -1, 1),), (0,))], [(0, (ONE, ONE), (0, 0))], [(0, (), ())],
            [(0, (ONE,) * 13, tuple(range(13)))], [(0, (ONE,), (0,), 0)],
        ]:
            refused(self, NoChange, side_by_side, thing)

    def test_none_and_thirteen(self):
        refused(self, NoChange, side_by_side, [])
        refused(self, NoChange, side_by_side, [STILL] * 13)
        refused(self, NoChange, side_by_side, [STILL] * 14)
        refused(self, NoChange, side_by_side, [GOLDEN] * 13)
        refused(self, NoChange, side_by_side, [TWELVE] * 900)

    def test_one_thing_in_the_list_that_is_no_change(self):
        for thing in OTHER_KINDS + [0, 1]:
            for at in range(3):
                changes = [STILL, TURN]
                changes.insert(at, thing)
                refused(self, NoChange, side_by_side, changes)

    def test_unlike(self):
        for changes in [
            [STILL, GOLDEN], [GOLDEN, STILL], [GOLDEN, GOLDEN, (3, (ONE,), (0,))], [STILL] * 11 + [(2, (ONE,), (0,))],
            [(97, (ONE,), (0,))] + [STILL] * 11, [STILL, (2, (ONE,), (0,)), STILL],
        ]:
            refused(self, Unlike, side_by_side, changes)

    def test_too_many(self):
        for changes in [
            [SIX, STILL], [STILL, SIX], [TURN] * 7, [TWELVE, TWELVE], [TURN, STILL] * 4 + [TURN], [TWELVE] * 12,
        ]:
            refused(self, TooMany, side_by_side, changes)
        self.assertEqual(len(side_by_side([TURN] * 6)[1]), 12)
        self.assertEqual(len(side_by_side([TURN, STILL] * 4)[1]), 12)

    def test_which_comes_first(self):
        refused(self, NoChange, side_by_side, [STILL, GOLDEN, None])
        refused(self, NoChange, side_by_side, [SIX, TWELVE, SIX, ()])
        refused(self, NoChange, side_by_side, [STILL, GOLDEN] * 7)
        refused(self, Unlike, side_by_side, [SIX, SIX, GOLDEN])
        refused(self, Unlike, side_by_side, [SIX, TWELVE])


class Told(unittest.TestCase):
    def test_lists_are_new(self):
        for change in (STILL, GOLDEN, MIXED, SIX, TWELVE):
            new_each_time(self, parts_at, change)
            new_each_time(self, parted, change)

    def test_the_list_handed_in_stays_the_askers(self):
        changes = [GOLDEN, (2, (ROOT,), (0,))]
        told = side_by_side(changes)
        self.assertEqual(changes, [GOLDEN, (2, (ROOT,), (0,))])
        changes.clear()
        self.assertEqual(told, (2, GOLDEN[1] + (ROOT,), (1, 0, 2)))
        self.assertEqual(side_by_side([GOLDEN, (2, (ROOT,), (0,))]), told)

    def test_kinds_of_values(self):
        for change in (STILL, MIXED, SIX):
            self.assertTrue(all(type(piece) is int for piece in parts_at(change)))
            self.assertTrue(all(is_change(part) for part in parted(change)))
        told = side_by_side([STILL, TURN])
        self.assertEqual([type(part) for part in told], [int, tuple, tuple])
        self.assertTrue(is_change(told))


if __name__ == "__main__":
    unittest.main()
