"""[5, 6, 22] The piece of a point, where it goes, and from where it came."""

import unittest

from cutexchange.changes import begins_of, came, goes, laid_of, moves_of, piece_at, whole_of
from cutexchange.errors import NoPoint
from cutexchange.numbers import is_number, less, minus, plus, times
from tests.helper import GOLDEN, ONE, OTHER_KINDS, THREE, ZERO, refused, some_changes, worth

TINY = (1, 0, 10 ** 39)
ASKS = (piece_at, goes, came)


def samples(change):
    """Tuples (piece, far, point): each piece's begin, points within it, and one just ahead of its end."""
    root, longs, order = change
    found = []
    for piece, begin in enumerate(begins_of(change)):
        fars = [ZERO, TINY, minus(root, longs[piece], TINY)]
        fars += [times(root, longs[piece], part) for part in [(1, 0, 2), (1, 0, 7), (10 ** 30 - 1, 0, 10 ** 30)]]
        found += [(piece, far, plus(root, begin, far)) for far in fars]
    return found


class Goes(unittest.TestCase):
    def test_golden(self):
        self.assertEqual(piece_at(GOLDEN, ZERO), 0)
        self.assertEqual(piece_at(GOLDEN, (1, 0, 2)), 0)
        self.assertEqual(piece_at(GOLDEN, ONE), 1)
        self.assertEqual(goes(GOLDEN, ZERO), (-1, 1, 1))
        self.assertEqual(goes(GOLDEN, (1, 0, 2)), (-1, 2, 2))
        self.assertEqual(goes(GOLDEN, ONE), ZERO)
        self.assertEqual(came(GOLDEN, ZERO), ONE)
        self.assertEqual(came(GOLDEN, (-1, 1, 1)), ZERO)
        self.assertEqual(came(GOLDEN, ONE), (2, -1, 1))

    def test_three(self):
        self.assertEqual([piece_at(THREE, n) for n in [ZERO, (1, 0, 2), (5, 0, 6), (2, 0, 1)]], [0, 1, 2, 2])
        self.assertEqual(goes(THREE, (1, 0, 2)), (5, 0, 2))
        self.assertEqual(goes(THREE, (5, 0, 6)), ZERO)
        self.assertEqual(came(THREE, (2, 0, 1)), ZERO)
        self.assertEqual(came(THREE, (5, 0, 2)), (1, 0, 2))

    def test_one_piece_stays(self):
        change = (0, ((7, 0, 2),), (0,))
        for point in [ZERO, ONE, (7, 0, 3), (69, 0, 20)]:
            self.assertEqual((piece_at(change, point), goes(change, point), came(change, point)), (0, point, point))

    def test_begins_within_and_just_ahead_of_ends(self):
        for change in some_changes(60, "goes"):
            root = change[0]
            laid = dict(laid_of(change))
            for piece, far, point in samples(change):
                self.assertEqual(piece_at(change, point), piece)
                self.assertIs(type(piece_at(change, point)), int)
                behind = plus(root, laid[piece], far)
                self.assertEqual(goes(change, point), behind)
                self.assertEqual(came(change, behind), point)

    def test_each_undoes_the_other(self):
        for change in some_changes(60, "undo"):
            for _, _, point in samples(change):
                self.assertEqual(came(change, goes(change, point)), point)
                self.assertEqual(goes(change, came(change, point)), point)

    def test_what_is_told_is_a_point(self):
        for change in some_changes(36, "points"):
            root = change[0]
            for _, _, point in samples(change):
                for told in (goes(change, point), came(change, point)):
                    self.assertTrue(is_number(root, told))
                    self.assertTrue(0 <= worth(root, told) < worth(root, whole_of(change)))

    def test_a_go_is_the_move_of_the_piece(self):
        for change in some_changes(36, "moves"):
            for piece, _, point in samples(change):
                self.assertEqual(minus(change[0], goes(change, point), point), moves_of(change)[piece])

    def test_walks_there_and_back(self):
        point = ZERO
        for _ in range(300):
            point = goes(GOLDEN, point)
            self.assertTrue(less(2, point, whole_of(GOLDEN)))
        for _ in range(300):
            self.assertNotEqual(point, ZERO)
            point = came(GOLDEN, point)
        self.assertEqual(point, ZERO)

    def test_points_very_near_an_edge(self):
        # Differences of numbers of up to forty figures, that come nearer and nearer to 0.
        top, bottom = 3, 2
        while top < 10 ** 39:
            near = (top, -bottom, 1) if top * top > 2 * bottom * bottom else (-top, bottom, 1)
            self.assertEqual(piece_at(GOLDEN, minus(2, ONE, near)), 0)
            self.assertEqual(piece_at(GOLDEN, plus(2, ONE, near)), 1)
            self.assertEqual(goes(GOLDEN, minus(2, whole_of(GOLDEN), near)), minus(2, (-1, 1, 1), near))
            self.assertEqual(came(GOLDEN, minus(2, whole_of(GOLDEN), near)), minus(2, ONE, near))
            for ask in ASKS:
                refused(self, NoPoint, ask, GOLDEN, minus(2, ZERO, near))
                refused(self, NoPoint, ask, GOLDEN, plus(2, whole_of(GOLDEN), near))
            top, bottom = top + 2 * bottom, top + bottom


class NoPoints(unittest.TestCase):
    def check(self, change, thing):
        for ask in ASKS:
            refused(self, NoPoint, ask, change, thing)

    def test_other_kinds(self):
        for change in (GOLDEN, THREE):
            for thing in OTHER_KINDS + [0, 1, -1, 10 ** 39]:
                self.check(change, thing)

    def test_below_0(self):
        for change in (GOLDEN, THREE):
            for thing in [(-1, 0, 1), (-1, 0, 10 ** 39), (-1, 0, 2)]:
                self.check(change, thing)
        for thing in [(1, -1, 1), (0, -1, 9), (-3, 2, 1)]:
            self.check(GOLDEN, thing)

    def test_the_whole_and_beyond(self):
        for change in some_changes(36, "beyond"):
            root, whole = change[0], whole_of(change)
            self.check(change, whole)
            self.check(change, plus(root, whole, TINY))
            self.check(change, times(root, whole, (2, 0, 1)))
            self.check(change, minus(root, ZERO, whole))
            self.check(change, (10 ** 39, 0, 1))
            self.assertEqual(piece_at(change, minus(root, whole, TINY)), len(change[1]) - 1)

    def test_of_another_root(self):
        for thing in [(0, 1, 1), (1, 1, 3), (-1, 1, 1)]:
            self.check(THREE, thing)

    def test_not_in_lowest_terms(self):
        for change in (GOLDEN, THREE):
            for thing in [(2, 0, 2), (0, 0, 2), (1, 0, 0), (0, 0, 0), (-1, 0, -1), (0, 0, -1)]:
                self.check(change, thing)
        self.check(GOLDEN, (0, 2, 4))

    def test_truths_among_the_parts(self):
        for change in (GOLDEN, THREE):
            for thing in [(True, 0, 1), (False, 0, 1), (0, False, 1), (1, 0, True), (0, 0, True)]:
                self.check(change, thing)

    def test_a_part_more_or_fewer(self):
        for change in (GOLDEN, THREE):
            for thing in [(0, 1), (0, 0, 1, 1), (1, 0), ((0, 0, 1),), [0, 0, 1]]:
                self.check(change, thing)


if __name__ == "__main__":
    unittest.main()
