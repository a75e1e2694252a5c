"""[4, 5, 31] Where points come by so many goes, which pieces they meet, and when they are back."""

import unittest

from cutexchange.changes import came, goes, piece_at, whole_of
from cutexchange.errors import NoNumber, NoPoint
from cutexchange.numbers import is_number, minus
from cutexchange.walks import after, comes_back, word_of
from tests.helper import (
    GOLDEN, HALF, ONE, OTHER_KINDS, STILL, THREE, TWELVE, ZERO, cells_of, of_cells, refused, some_cell_changes,
    some_changes, some_points, worth,
)

FORTY = (97, ((10 ** 40 - 1, 0, 10 ** 40 - 3), (1, 10 ** 39 + 1, 10 ** 40 - 9), (0, 1, 10 ** 39)), (2, 0, 1))


def turned(many):
    """Each point comes to itself by just so many goes."""
    return of_cells([many - 1, 1], [1, 0])


class After(unittest.TestCase):
    def test_golden(self):
        walk = [ZERO, (-1, 1, 1), (-2, 2, 1), (-3, 3, 1), (-4, 3, 1), (-5, 4, 1)]
        for often, point in enumerate(walk):
            self.assertEqual(after(GOLDEN, ZERO, often), point)
            self.assertEqual(after(GOLDEN, point, -often), ZERO)
        self.assertEqual(after(GOLDEN, (-2, 2, 1), 3), (-5, 4, 1))
        self.assertEqual(after(GOLDEN, (-5, 4, 1), -4), (-1, 1, 1))

    def test_by_one_go_after_another(self):
        for change in some_changes(36, "after"):
            for point in some_points(change)[:9]:
                there = back = point
                for often in range(12):
                    self.assertEqual(after(change, point, often), there)
                    self.assertEqual(after(change, point, -often), back)
                    there, back = goes(change, there), came(change, back)

    def test_no_go(self):
        for change in some_changes(24, "none"):
            for point in some_points(change):
                self.assertEqual(after(change, point, 0), point)

    def test_2000_goes(self):
        for change in (STILL, GOLDEN, THREE, FORTY, TWELVE):
            for start in (ZERO, some_points(change)[-1]):
                there = back = start
                for _ in range(2000):
                    there, back = goes(change, there), came(change, back)
                self.assertEqual(after(change, start, 2000), there)
                self.assertEqual(after(change, start, -2000), back)
                self.assertEqual(after(change, start, 1999), came(change, there))
                self.assertEqual(after(change, start, -1999), goes(change, back))

    def test_there_and_back(self):
        for change in some_changes(24, "there"):
            for point in some_points(change)[::5]:
                for often in (1, 7, 300, 2000):
                    self.assertEqual(after(change, after(change, point, often), -often), point)
                    self.assertEqual(after(change, after(change, point, -often), often), point)

    def test_goes_put_together(self):
        for change in some_changes(12, "sums"):
            for point in some_points(change)[::7]:
                for one, other in [(5, 9), (100, -30), (-17, 40), (-8, -8), (1000, -2000)]:
                    self.assertEqual(after(change, after(change, point, one), other), after(change, point, one + other))

    def test_what_is_told_is_a_point(self):
        for change in some_changes(24, "points"):
            whole = worth(change[0], whole_of(change))
            for often in (-77, 1, 500):
                told = after(change, some_points(change)[-2], often)
                self.assertTrue(is_number(change[0], told))
                self.assertTrue(0 <= worth(change[0], told) < whole)


class WordOf(unittest.TestCase):
    def test_golden(self):
        self.assertEqual(word_of(GOLDEN, ZERO, 0), ())
        self.assertEqual(word_of(GOLDEN, ZERO, 1), (0,))
        self.assertEqual(word_of(GOLDEN, ZERO, 6), (0, 0, 0, 1, 0, 0))
        self.assertEqual(word_of(GOLDEN, ONE, 4), (1, 0, 0, 0))

    def test_three(self):
        self.assertEqual(word_of(THREE, ZERO, 5), (0, 2, 2, 0, 2))
        self.assertEqual(word_of(THREE, HALF, 4), (1, 2, 2, 2))

    def test_pieces_of_where_it_comes(self):
        for change in some_changes(36, "word"):
            for point in some_points(change)[::3]:
                place, pieces = point, []
                for often in range(20):
                    told = word_of(change, point, often)
                    self.assertIs(type(told), tuple)
                    self.assertEqual(told, tuple(pieces))
                    pieces.append(piece_at(change, place))
                    place = goes(change, place)

    def test_2000_goes(self):
        for change in (STILL, GOLDEN, THREE, FORTY, TWELVE):
            word = word_of(change, ZERO, 2000)
            self.assertEqual(len(word), 2000)
            self.assertEqual(word_of(change, ZERO, 1999), word[:-1])
            self.assertEqual(word_of(change, goes(change, ZERO), 1999), word[1:])
            for often in (0, 1, 777, 1999):
                self.assertEqual(word[often], piece_at(change, after(change, ZERO, often)))

    def test_one_piece(self):
        self.assertEqual(word_of(STILL, HALF, 2000), (0,) * 2000)


class ComesBack(unittest.TestCase):
    def test_one_piece(self):
        for most in (1, 2, 2000):
            self.assertEqual(comes_back(STILL, HALF, most), 1)

    def test_cells(self):
        for change in some_cell_changes(36, 40, "back"):
            cells = cells_of(change)
            for cell in range(40):
                place, goes_taken = cells[cell], 1
                while place != cell:
                    place, goes_taken = cells[place], goes_taken + 1
                for point in [(cell, 0, 1), (2 * cell + 1, 0, 2)]:
                    self.assertEqual(comes_back(change, point, 40), goes_taken)
                    self.assertEqual(comes_back(change, point, goes_taken), goes_taken)
                    if goes_taken > 1:
                        self.assertIsNone(comes_back(change, point, goes_taken - 1))

    def test_it_is_the_least_one(self):
        for many in (2, 3, 10, 700):
            self.assertEqual(comes_back(turned(many), HALF, 2000), many)

    def test_2000_goes_and_beyond(self):
        for point in (ZERO, HALF, (1999, 0, 1)):
            self.assertEqual(comes_back(turned(2000), point, 2000), 2000)
            self.assertIsNone(comes_back(turned(2000), point, 1999))
            self.assertIsNone(comes_back(turned(2001), point, 2000))
            self.assertEqual(comes_back(turned(1999), point if point != (1999, 0, 1) else ZERO, 2000), 1999)

    def test_most_1(self):
        self.assertIsNone(comes_back(turned(2), ZERO, 1))
        self.assertEqual(comes_back(of_cells([1, 1, 1], [0, 2, 1]), HALF, 1), 1)

    def test_none_with_a_root(self):
        for change in (GOLDEN, TWELVE):
            for most in (1, 40, 2000):
                self.assertIsNone(comes_back(change, ZERO, most))

    def test_some_with_a_root(self):
        # The first two pieces, as long as one another, change places; the last one stays.
        change = (2, ((0, 1, 1), (0, 1, 1), ONE), (1, 0, 2))
        self.assertEqual(comes_back(change, ONE, 2000), 2)
        self.assertEqual(comes_back(change, (0, 2, 1), 2000), 1)
        self.assertIsNone(comes_back(change, ONE, 1))

    def test_the_point_is_where_it_was(self):
        for change in some_changes(24, "was"):
            for point in some_points(change)[::4]:
                told = comes_back(change, point, 300)
                if told is not None:
                    self.assertEqual(after(change, point, told), point)
                if told is not None and told > 1:
                    self.assertIsNone(comes_back(change, point, told - 1))


class Refusals(unittest.TestCase):
    def test_numbers_of_goes(self):
        for change in (STILL, GOLDEN, THREE, TWELVE):
            for thing in OTHER_KINDS + [ZERO, ONE, "0", 2001, 10 ** 39, -(10 ** 39)]:
                for ask in (after, word_of, comes_back):
                    refused(self, NoNumber, ask, change, ZERO, thing)
            refused(self, NoNumber, after, change, ZERO, -2001)
            refused(self, NoNumber, word_of, change, ZERO, -1)
            refused(self, NoNumber, word_of, change, ZERO, -2000)
            refused(self, NoNumber, comes_back, change, ZERO, 0)
            refused(self, NoNumber, comes_back, change, ZERO, -1)

    def test_points(self):
        for change in (STILL, GOLDEN, THREE, TWELVE):
            beyond = [whole_of(change), minus(change[0], ZERO, whole_of(change)), (10 ** 39, 0, 1), (-1, 0, 10 ** 39)]
            for thing in OTHER_KINDS + beyond + [0, (2, 0, 4), (0, 0, 2), (True, 0, 2), (0, False, 1), [0, 0, 1]]:
                for ask in (after, word_of, comes_back):
                    refused(self, NoPoint, ask, change, thing, 1)

    def test_a_point_of_another_root(self):
        for ask in (after, word_of, comes_back):
            refused(self, NoPoint, ask, THREE, (-1, 1, 1), 1)

    def test_the_point_is_looked_at_first(self):
        for point in OTHER_KINDS + [whole_of(GOLDEN), (-1, 0, 1)]:
            for often in (2001, -2001, True, None, "1", [1], (1,), {1: 1}):
                for ask in (after, word_of, comes_back):
                    refused(self, NoPoint, ask, GOLDEN, point, often)

    def test_asked_again(self):
        for change in some_changes(12, "again"):
            before = repr(change)
            for ask, number in [(after, -9), (after, 9), (word_of, 9), (comes_back, 9)]:
                self.assertEqual(ask(change, ZERO, number), ask(change, ZERO, number))
            self.assertEqual(repr(change), before)


if __name__ == "__main__":
    unittest.main()
