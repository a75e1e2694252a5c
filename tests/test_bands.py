"""[4, 5, 7, 51, 52, 53] Bands of points that come to themselves."""

import unittest
from math import lcm, prod

from cutexchange.bands import all_back, all_bands, band_of, bands_upto, is_band
from cutexchange.changes import came, goes, whole_of
from cutexchange.errors import NoChange, NoNumber, NoPoint, TooMany
from cutexchange.numbers import is_number, minus, plus, times
from cutexchange.walks import comes_back, word_of
from cutexchange.words import all_words
from tests.helper import (
    GOLDEN, HALF, MIXED, ONE, OTHER_KINDS, ROOT, STILL, TWELVE, ZERO, cells_of, new_each_time, of_cells, refused,
    scaled_change, some_cell_changes, some_changes, some_points, turns, worth,
)

MIXED_BANDS = [
    (ROOT, (1, 2, 2), (2, 3)), ((1, 2, 2), (1, 1, 1), (3, 2)), ((1, 1, 1), (1, 2, 1), (4,)),
]


def cell_bands(change):
    """All bands, found cell by cell, of a change of whole longs of root 0."""
    cells, pieces = cells_of(change), [p for p, long in enumerate(change[1]) for _ in range(long[0])]
    found = []
    for cell in range(len(cells)):
        place, word = cells[cell], (pieces[cell],)
        while place != cell:
            place, word = cells[place], word + (pieces[place],)
        begin = (cell, 0, 1) if not found or found[-1][2] != word else found.pop()[0]
        found.append((begin, (cell + 1, 0, 1), word))
    return found


def scaled(number):
    """A whole number times the root."""
    return (0, number[0], 1) if number[0] else ZERO


class BandOf(unittest.TestCase):
    def test_known(self):
        self.assertEqual(band_of(STILL, HALF), (ZERO, ONE, (0,)))
        self.assertEqual(band_of(of_cells([2, 1], [1, 0]), (5, 0, 2)), ((2, 0, 1), (3, 0, 1), (1, 0, 0)))
        self.assertIsNone(band_of(GOLDEN, HALF))
        self.assertIsNone(band_of(TWELVE, ZERO))

    def test_mixed(self):
        for begin, end, word in MIXED_BANDS:
            for point in (begin, times(2, plus(2, begin, end), HALF), minus(2, end, (1, 0, 10 ** 39))):
                self.assertEqual(band_of(MIXED, point), (begin, end, word))
        for point in (ZERO, HALF, ONE, minus(2, ROOT, (1, 0, 10 ** 39))):
            self.assertIsNone(band_of(MIXED, point))

    def test_cells(self):
        for change in some_cell_changes(48, 40, "bands"):
            for band in cell_bands(change):
                begin, end, word = band
                for point in (begin, minus(0, end, ONE), minus(0, end, (1, 0, 7))):
                    self.assertEqual(band_of(change, point), band)

    def test_numbers_with_a_root(self):
        for change in some_cell_changes(36, 30, "scaled"):
            other = scaled_change(change, 7)
            for begin, end, word in cell_bands(change):
                told = (scaled(begin), scaled(end), word)
                self.assertEqual(band_of(other, scaled(begin)), told)
                self.assertEqual(band_of(other, minus(7, scaled(end), (1, 0, 9))), told)

    def test_2000_goes_and_beyond(self):
        for cell in (0, 1, 1000, 1998, 1999):
            begin, end, word = band_of(turns(2000), (2 * cell + 1, 0, 2))
            self.assertEqual((begin, end), ((cell, 0, 1), (cell + 1, 0, 1)))
            self.assertEqual(word, (0,) * (1999 - cell) + (1,) + (0,) * cell)
            self.assertIsNone(band_of(turns(2001), (2 * cell + 1, 0, 2)))
        other = scaled_change(turns(2000), 2)
        self.assertEqual(band_of(other, ONE), (ZERO, ROOT, (0,) * 1999 + (1,)))
        self.assertIsNone(band_of(scaled_change(turns(2001), 2), ONE))

    def test_where_it_comes(self):
        for change in some_changes(48, "where") + some_cell_changes(24, 50, "where"):
            for point in some_points(change)[::5]:
                band = band_of(change, point)
                if band is None:
                    self.assertIsNone(comes_back(change, point, 2000))
                    continue
                begin, end, word = band
                self.assertTrue(is_band(change, band))
                self.assertEqual(word_of(change, point, len(word)), word)
                self.assertEqual(comes_back(change, point, 2000), len(word))
                self.assertEqual(band_of(change, goes(change, point))[2], word[1:] + word[:1])
                self.assertEqual(band_of(change, came(change, point))[2], word[-1:] + word[:-1])
                self.assertEqual(band_of(change, goes(change, point))[0], goes(change, begin))

    def test_no_point(self):
        for change in (STILL, GOLDEN, MIXED, turns(2000)):
            for thing in OTHER_KINDS + [whole_of(change), (-1, 0, 1), 0, (2, 0, 4), (0, 0, True), [0, 0, 1]]:
                refused(self, NoPoint, band_of, change, thing)
        refused(self, NoPoint, band_of, STILL, (-1, 1, 1))


class BandsUpto(unittest.TestCase):
    def test_known(self):
        self.assertEqual(bands_upto(STILL, 1), [(ZERO, ONE, (0,))])
        self.assertEqual(bands_upto(STILL, 40), [(ZERO, ONE, (0,))])
        self.assertEqual(bands_upto(GOLDEN, 40), [])
        self.assertEqual(bands_upto(TWELVE, 40), [])
        self.assertEqual(bands_upto(MIXED, 1), MIXED_BANDS[2:])
        for most in (2, 3, 40):
            self.assertEqual(bands_upto(MIXED, most), MIXED_BANDS)

    def test_cells(self):
        for change in some_cell_changes(36, 30, "upto"):
            told = cell_bands(change)
            for most in (1, 2, 3, 7, 29, 30, 40):
                self.assertEqual(bands_upto(change, most), [band for band in told if len(band[2]) <= most])

    def test_numbers_with_a_root(self):
        for change in some_cell_changes(24, 30, "upto root"):
            told = [(scaled(begin), scaled(end), word) for begin, end, word in cell_bands(change)]
            for most in (1, 5, 40):
                self.assertEqual(bands_upto(scaled_change(change, 13), most), [b for b in told if len(b[2]) <= most])

    def test_40_goes_and_beyond(self):
        self.assertEqual(len(bands_upto(turns(40), 40)), 40)
        self.assertEqual(bands_upto(turns(40), 39), [])
        self.assertEqual(bands_upto(turns(41), 40), [])
        self.assertEqual(bands_upto(turns(41, 3), 40), cell_bands(turns(41, 3))[41:])
        self.assertEqual(bands_upto(turns(40, 39, 38, 37, 36, 35), 40), cell_bands(turns(40, 39, 38, 37, 36, 35)))

    def test_all_points_that_come_back_and_no_others(self):
        for change in some_changes(48, "all"):
            root = change[0]
            told = bands_upto(change, 12)
            self.assertEqual(told, sorted(told, key=lambda band: worth(root, band[0])))
            for _, begin, end in all_words(change, 12):
                middle = times(root, plus(root, begin, end), HALF)
                for point in (begin, middle):
                    around = [b for b in told if worth(root, b[0]) <= worth(root, point) < worth(root, b[1])]
                    needed = comes_back(change, point, 12)
                    self.assertEqual(around, [] if needed is None else [band_of(change, point)])

    def test_refused(self):
        for change in (STILL, GOLDEN, MIXED, TWELVE):
            for thing in OTHER_KINDS + [0, -1, 41, 2000, 10 ** 39, ONE]:
                refused(self, NoNumber, bands_upto, change, thing)


class AllBands(unittest.TestCase):
    def test_known(self):
        self.assertEqual(all_bands(STILL), [(ZERO, ONE, (0,))])
        self.assertEqual(all_bands((0, (HALF, HALF), (1, 0))), [(ZERO, HALF, (0, 1)), (HALF, ONE, (1, 0))])
        self.assertEqual(all_back(STILL), 1)
        self.assertEqual(all_back((0, (HALF, HALF), (1, 0))), 2)

    def test_cells(self):
        for change in some_cell_changes(60, 60, "all"):
            told = cell_bands(change)
            self.assertEqual(all_bands(change), told)
            self.assertEqual(all_back(change), lcm(*[len(word) for _, _, word in told]))

    def test_fractions_fill_the_whole(self):
        seen = 0
        for change in some_changes(160, "fractions"):
            if change[0] != 0:
                continue
            try:
                told = all_bands(change)
            except TooMany:
                refused(self, TooMany, all_back, change)
                continue
            seen += len(told)
            self.assertEqual([ZERO] + [end for _, end, _ in told], [begin for begin, _, _ in told] + [whole_of(change)])
            for band in told[::9]:
                self.assertTrue(is_band(change, band))
                self.assertEqual(band_of(change, band[0]), band)
            self.assertEqual(all_back(change), lcm(*[len(word) for _, _, word in told]))
        self.assertGreater(seen, 200)

    def test_600_bands_and_more(self):
        for change in (turns(600), turns(300, 300), turns(100, 100, 100, 100, 100, 100), turns(599, 1), turns(1, 599)):
            told = all_bands(change)
            self.assertEqual(len(told), 600)
            self.assertEqual(told, cell_bands(change))
            self.assertEqual(all_back(change), lcm(*[len(word) for _, _, word in told]))
        for change in (
            turns(601), turns(300, 301), turns(301, 300), turns(100, 100, 100, 100, 100, 101), turns(600, 1),
            turns(1, 600),
        ):
            refused(self, TooMany, all_bands, change)
            refused(self, TooMany, all_back, change)

    def test_2000_goes_and_beyond(self):
        for change in (turns(2000), turns(2001), turns(1, 2001), turns(5, 10 ** 39), of_cells([10 ** 39, 7], [1, 0])):
            refused(self, TooMany, all_bands, change)
            refused(self, TooMany, all_back, change)

    def test_long_bands_of_few_goes(self):
        change = (0, ((10 ** 40 - 1, 0, 7), (10 ** 40 - 1, 0, 7), (3, 0, 10 ** 39)), (1, 0, 2))
        whole = whole_of(change)
        halves = [ZERO, change[1][0], times(0, change[1][0], (2, 0, 1)), whole]
        self.assertEqual(all_bands(change), [
            (halves[0], halves[1], (0, 1)), (halves[1], halves[2], (1, 0)), (halves[2], halves[3], (2,)),
        ])
        self.assertEqual(all_back(change), 2)

    def test_many_goes_until_all_are_back(self):
        sizes = (97, 89, 83, 79, 73, 71)
        self.assertEqual(all_back(turns(*sizes)), prod(sizes))
        self.assertEqual(all_back(turns(6, 4, 9)), 36)
        self.assertIs(type(all_back(turns(4, 6))), int)

    def test_of_another_root(self):
        for change in (GOLDEN, MIXED, TWELVE, (2, (ONE,), (0,)), (97, (HALF, HALF), (1, 0))):
            refused(self, NoChange, all_bands, change)
            refused(self, NoChange, all_back, change)

    def test_the_root_is_looked_at_first(self):
        for change in (turns(601), turns(2001)):
            refused(self, NoChange, all_bands, (2,) + change[1:])
            refused(self, NoChange, all_back, (2,) + change[1:])


class IsBand(unittest.TestCase):
    def test_right_ones(self):
        for change, bands in [(STILL, [(ZERO, ONE, (0,))]), (MIXED, MIXED_BANDS)]:
            for band in bands:
                self.assertIs(is_band(change, band), True)

    def test_all_of_cells(self):
        for change in some_cell_changes(24, 30, "is"):
            for band in cell_bands(change):
                self.assertIs(is_band(change, band), True)

    def test_many_goes(self):
        for many in (40, 41, 500, 2000, 2001, 8000):
            self.assertIs(is_band(turns(many), (ZERO, ONE, (0,) * (many - 1) + (1,))), True)
            self.assertIs(is_band(turns(many), (ZERO, ONE, (0,) * many)), False)
            self.assertIs(is_band(turns(many), (ONE, (2, 0, 1), (0,) * (many - 1) + (1,))), False)

    def wrong_ones(self, band):
        begin, end, word = band
        root = 2 if any(number[1] for number in (begin, end)) else 0
        near = (1, 0, 10 ** 30)
        longs = [(begin, minus(root, end, near)), (begin, plus(root, end, near)), (plus(root, begin, near), end)]
        longs += [(minus(root, begin, near), end), (end, begin), (begin, begin), (ZERO, (10 ** 39, 0, 1))]
        wrong = [(low, high, word) for low, high in longs if (low, high) != (begin, end)]
        wrong += [(begin, end, word + word), (begin, end, word * 3), (begin, end, word + word[:1]), (begin, end, ())]
        wrong += [(begin, end, word[1:] + (99,)), (begin, end, word[:-1] + (-1,)), (begin, end, list(word))]
        wrong += [[begin, end, word], (begin, end), (begin, end, word, word), (begin, word, end), (end, begin, word)]
        wrong += [(list(begin), end, word), (begin, list(end), word), (begin, end, {0: word}), (begin, end, str(word))]
        wrong += [(begin, end, word[:-1] + (thing,)) for thing in (None, "0", word, True)]
        if len(word) > 1:
            wrong += [(begin, end, word[1:]), (begin, end, word[:-1])]
            wrong += [(begin, end, word[1:] + word[:1])] if word[1:] + word[:1] != word else []
        return wrong

    def test_right_ones_put_otherwise(self):
        cases = [(change, cell_bands(change)) for change in some_cell_changes(24, 20, "wrong")]
        for change, bands in cases + [(MIXED, MIXED_BANDS)]:
            for band in bands:
                self.assertIs(is_band(change, band), True)
                for thing in self.wrong_ones(band):
                    self.assertIs(is_band(change, thing), False, thing)

    def test_two_bands_as_one(self):
        change = of_cells([1, 1], [0, 1])
        self.assertIs(is_band(change, (ZERO, ONE, (0,))), True)
        self.assertIs(is_band(change, (ONE, (2, 0, 1), (1,))), True)
        self.assertIs(is_band(change, (ZERO, (2, 0, 1), (0,))), False)
        self.assertIs(is_band(change, (ZERO, (2, 0, 1), (0, 1))), False)
        self.assertIs(is_band((0, ((2, 0, 1),), (0,)), (ZERO, (2, 0, 1), (0,))), True)

    def test_truths_for_numbers(self):
        self.assertIs(is_band(STILL, ((0, 0, True), ONE, (0,))), False)
        self.assertIs(is_band(STILL, ((False, 0, 1), ONE, (0,))), False)
        self.assertIs(is_band(STILL, (ZERO, (True, 0, 1), (0,))), False)
        self.assertIs(is_band(STILL, (ZERO, (1, False, 1), (0,))), False)
        self.assertIs(is_band(STILL, (ZERO, ONE, (False,))), False)
        self.assertIs(is_band(of_cells([1, 1], [1, 0]), (ZERO, ONE, (0, True))), False)

    def test_not_in_lowest_terms(self):
        for thing in [((0, 0, 2), ONE, (0,)), (ZERO, (2, 0, 2), (0,)), (ZERO, (-1, 0, -1), (0,))]:
            self.assertIs(is_band(STILL, thing), False)

    def test_words_of_no_point_and_of_points_that_go_on(self):
        for word in [(0,), (1,), (0, 1), (1, 1), (0, 0, 1), (0,) * 50, (1, 0, 0), (0, 1, 0, 0, 1)]:
            for begin, end in [(ZERO, ONE), (ONE, ROOT), (ZERO, ROOT)]:
                self.assertIs(is_band(GOLDEN, (begin, end, word)), False)
        for word, begin, end in all_words(GOLDEN, 9) + all_words(MIXED, 3)[:4]:
            self.assertIs(is_band(GOLDEN if len(word) == 9 else MIXED, (begin, end, word)), False)

    def test_a_word_of_no_point_whose_moves_are_0_together(self):
        # Both move by one cell, there and back, but no point of piece 0 comes to piece 3.
        change = of_cells([1, 1, 1, 1], [1, 0, 3, 2])
        self.assertIs(is_band(change, (ZERO, ONE, (0, 1))), True)
        self.assertIs(is_band(change, (ZERO, ONE, (0, 3))), False)
        self.assertIs(is_band(change, ((3, 0, 1), (4, 0, 1), (3, 0))), False)

    def test_of_whatever_kind(self):
        for change in (STILL, GOLDEN, MIXED, TWELVE):
            self.assertIs(is_band(change, ZERO), False)
            for thing in OTHER_KINDS + [0, 1, 10 ** 39]:
                before = repr(thing)
                self.assertIs(is_band(change, thing), False)
                self.assertIs(is_band(change, (thing, ONE, (0,))), False)
                self.assertIs(is_band(change, (ONE, ONE, thing)), False)
                self.assertIs(is_band(change, (ONE, ZERO, (0, thing))), False)
                self.assertIs(is_band(change, (ZERO, thing, (0,))), False)
                self.assertEqual(repr(thing), before)


class Told(unittest.TestCase):
    def test_lists_are_new(self):
        for change in (STILL, turns(4, 3), turns(600)):
            new_each_time(self, all_bands, change)
        for change in (STILL, turns(4, 3), MIXED, GOLDEN):
            new_each_time(self, bands_upto, change, 5)

    def test_kinds_of_values(self):
        for change in (STILL, turns(4, 3), MIXED):
            for band in bands_upto(change, 40) + [band_of(change, minus(change[0], whole_of(change), (1, 0, 9)))]:
                self.assertEqual((type(band), len(band), type(band[2])), (tuple, 3, tuple))
                self.assertTrue(is_number(change[0], band[0]) and is_number(change[0], band[1]))
                self.assertTrue(all(type(piece) is int for piece in band[2]))

    def test_asked_again(self):
        for change in (STILL, turns(4, 3), turns(30, 20)):
            before = repr(change)
            for ask in (all_bands, all_back):
                self.assertEqual(ask(change), ask(change))
            self.assertEqual(band_of(change, ZERO), band_of(change, ZERO))
            self.assertEqual(is_band(change, band_of(change, ZERO)), is_band(change, band_of(change, ZERO)))
            self.assertEqual(repr(change), before)


if __name__ == "__main__":
    unittest.main()
