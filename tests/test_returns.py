"""[4, 5, 7, 61, 62] What comes back to a part of a change, and the long of all that is met from it."""

import unittest
from random import Random

from cutexchange.changes import begins_of, goes, is_change, piece_at, whole_of
from cutexchange.errors import NoStretch, TooMany
from cutexchange.numbers import less, minus, plus, times
from cutexchange.returns import back_to, met_long
from cutexchange.together import same, slim
from tests.helper import (
    FREE, GOLDEN, HALF, MIXED, ONE, OTHER_KINDS, ROOT, STILL, TWELVE, ZERO, cells_of, of_cells, parts_of, refused,
    some_cell_changes, some_changes, some_points, tuple_of,
)


def turned(many):
    return of_cells([many - 1, 1], [1, 0])


def cell_back(change, begin, end):
    """What comes back, found cell by cell: longs, order and words; and how many cells are met."""
    cells, pieces = cells_of(change), [p for p, long in enumerate(change[1]) for _ in range(long[0])]
    parts = []
    met = set()
    for cell in range(begin, end):
        place, word = cells[cell], (pieces[cell],)
        met.add(cell)
        while not begin <= place < end:
            met.add(place)
            place, word = cells[place], word + (pieces[place],)
        if parts and parts[-1][0] == word:
            parts[-1][1] += 1
        else:
            parts.append([word, 1, place])
    order = sorted(range(len(parts)), key=lambda part: parts[part][2])
    return [part[1] for part in parts], order, tuple(part[0] for part in parts), len(met)


class BackTo(unittest.TestCase):
    def test_golden(self):
        self.assertEqual(back_to(GOLDEN, ZERO, ONE), (
            (2, ((2, -1, 1), (-1, 1, 1)), (1, 0)), ((0,), (0, 1)),
        ))
        self.assertEqual(back_to(GOLDEN, ZERO, ROOT), (GOLDEN, ((0,), (1,))))
        self.assertEqual(back_to(GOLDEN, ONE, ROOT), (
            (2, ((3, -2, 1), (-4, 3, 1)), (1, 0)), ((1, 0, 0, 0), (1, 0, 0)),
        ))

    def test_one_piece(self):
        self.assertEqual(back_to(STILL, ZERO, ONE), (STILL, ((0,),)))
        self.assertEqual(back_to(STILL, (1, 0, 3), HALF), ((0, ((1, 0, 6),), (0,)), ((0,),)))
        self.assertEqual(met_long(STILL, (1, 0, 3), HALF), (1, 0, 6))

    def test_the_whole_gives_the_change(self):
        for change in some_changes(36, "whole") + [TWELVE]:
            words = tuple((piece,) for piece in range(len(change[1])))
            self.assertEqual(back_to(change, ZERO, whole_of(change)), (change, words))
            self.assertEqual(met_long(change, ZERO, whole_of(change)), whole_of(change))

    def test_cells(self):
        source = Random("cells")
        sizes = set()
        for change in some_cell_changes(240, 60, "returns"):
            begin, end = sorted(source.sample(range(61), 2))
            lengths, order, words, met = cell_back(change, begin, end)
            sizes.add(len(lengths))
            if len(lengths) > 12:
                refused(self, TooMany, back_to, change, (begin, 0, 1), (end, 0, 1))
                refused(self, TooMany, met_long, change, (begin, 0, 1), (end, 0, 1))
                continue
            told = back_to(change, (begin, 0, 1), (end, 0, 1))
            self.assertEqual(told, (of_cells(lengths, order), words))
            self.assertEqual(met_long(change, (begin, 0, 1), (end, 0, 1)), (met, 0, 1))
        self.assertTrue({1, 2, 11, 12, 13} <= sizes, sizes)

    def walked(self, change, begin, end, point):
        """Where a point of a stretch is back in it, and its word, gone by one go after another."""
        root, word, place = change[0], (), point
        while not word or less(root, place, begin) or not less(root, place, end):
            word += (piece_at(change, place),)
            place = goes(change, place)
        return place, word

    def check(self, change, begin, end):
        root = change[0]
        back, words = back_to(change, begin, end)
        self.assertTrue(is_change(back))
        self.assertEqual(back[0], root)
        self.assertEqual(whole_of(back), minus(root, end, begin))
        self.assertEqual((type(words), len(words)), (tuple, len(back[1])))
        self.assertEqual(len(set(words)), len(words))
        for point in some_points(back):
            place, word = self.walked(change, begin, end, plus(root, begin, point))
            self.assertEqual(minus(root, place, begin), goes(back, point))
            self.assertEqual(words[piece_at(back, point)], word)
        plain, rooted = (sum(parts_of(long)[at] * len(word) for long, word in zip(back[1], words)) for at in (0, 1))
        self.assertEqual(met_long(change, begin, end), tuple_of(plain, rooted))

    def test_with_a_root(self):
        looked_at = 0
        for change in some_changes(60, "root"):
            root, whole = change[0], whole_of(change)
            for low, high in [((0, 0, 1), HALF), ((1, 0, 5), (3, 0, 5)), (HALF, ONE), ((1, 0, 3), (7, 0, 9))]:
                begin, end = times(root, whole, low), times(root, whole, high)
                try:
                    back_to(change, begin, end)
                except TooMany:
                    continue
                self.check(change, begin, end)
                looked_at += 1
        self.assertGreater(looked_at, 150)

    def test_each_piece_of_a_change(self):
        for change in (GOLDEN, MIXED, FREE):
            begins = begins_of(change) + (whole_of(change),)
            for begin, end in zip(begins, begins[1:]):
                self.check(change, begin, end)

    def test_pieces_of_twelve(self):
        begins = begins_of(TWELVE) + (whole_of(TWELVE),)
        for piece in (0, 1, 2, 6, 8, 9, 10, 11):
            self.check(TWELVE, begins[piece], begins[piece + 1])
        # A point that needs many goes more than the others do.
        self.assertEqual(piece_at(TWELVE, (-30, 26, 7)), 3)
        self.assertEqual(len(self.walked(TWELVE, begins[3], begins[4], (-30, 26, 7))[1]), 3908)
        refused(self, TooMany, back_to, TWELVE, begins[3], begins[4])
        refused(self, TooMany, met_long, TWELVE, begins[3], begins[4])

    def test_pieces_that_go_alike_but_have_other_words(self):
        change = of_cells([1, 1, 1], [2, 0, 1])
        self.assertEqual(back_to(change, ZERO, (2, 0, 1)), (of_cells([1, 1], [1, 0]), ((0,), (1, 2))))
        idle = of_cells([1, 1], [0, 1])
        self.assertEqual(back_to(idle, ZERO, (2, 0, 1)), (idle, ((0,), (1,))))
        self.assertEqual(slim(idle), of_cells([2], [0]))
        self.assertEqual(back_to(idle, HALF, (3, 0, 2)), ((0, (HALF, HALF), (0, 1)), ((0,), (1,))))

    def test_words_of_500_pieces_and_more(self):
        for begin in (0, 1, 250, 499):
            back, words = back_to(turned(500), (begin, 0, 1), (begin + 1, 0, 1))
            self.assertEqual(back, STILL)
            self.assertEqual(words, ((0,) * (499 - begin) + (1,) + (0,) * begin,))
            self.assertEqual(met_long(turned(500), (begin, 0, 1), (begin + 1, 0, 1)), (500, 0, 1))
        for begin in (0, 1, 250, 499, 500):
            refused(self, TooMany, back_to, turned(501), (begin, 0, 1), (begin + 1, 0, 1))
            refused(self, TooMany, met_long, turned(501), (begin, 0, 1), (begin + 1, 0, 1))
            back, words = back_to(turned(501), (min(begin, 499), 0, 1), (min(begin, 499) + 2, 0, 1))
            self.assertEqual(sorted(len(word) for word in words), [1, 500])

    def test_one_long_word_is_enough_to_be_refused(self):
        # The first of the cells that come back needs but one go, the last one 501.
        change = of_cells([1, 500, 1], [0, 2, 1])
        self.assertEqual([len(word) for word in back_to(change, ZERO, ONE)[1]], [1])
        refused(self, TooMany, back_to, change, ZERO, (2, 0, 1))
        refused(self, TooMany, back_to, change, HALF, (3, 0, 2))

    def test_short_stretches(self):
        refused(self, TooMany, back_to, GOLDEN, ZERO, (1, 0, 10 ** 6))
        refused(self, TooMany, met_long, GOLDEN, ZERO, (1, 0, 10 ** 39))
        self.check(GOLDEN, (1, 0, 3), (17, 0, 50))
        self.check(STILL, (1, 0, 3), plus(0, (1, 0, 3), (1, 0, 10 ** 39)))

    def test_twelve_pieces_and_more(self):
        change = of_cells([2] * 12, [11, 9, 7, 5, 3, 1, 10, 8, 6, 4, 2, 0])
        sizes = {}
        for begin in range(24):
            for end in range(begin + 1, 25):
                lengths, order, words, met = cell_back(change, begin, end)
                sizes.setdefault(len(lengths), (begin, end))
                handed = (change, (begin, 0, 1), (end, 0, 1))
                if len(lengths) > 12:
                    refused(self, TooMany, back_to, *handed)
                    refused(self, TooMany, met_long, *handed)
                else:
                    self.assertEqual(back_to(*handed), (of_cells(lengths, order), words))
                    self.assertEqual(met_long(*handed), (met, 0, 1))
        self.assertTrue({12, 13} <= set(sizes), sizes)


class MetLong(unittest.TestCase):
    def test_all_is_met(self):
        for begin, end in [(ZERO, ONE), (ONE, ROOT), ((1, 0, 3), HALF), ((-1, 1, 1), (9, 0, 10))]:
            self.assertEqual(met_long(GOLDEN, begin, end), ROOT)

    def test_a_part_is_met(self):
        self.assertEqual(met_long(MIXED, ZERO, HALF), ROOT)
        self.assertEqual(met_long(MIXED, HALF, ONE), ROOT)
        self.assertEqual(met_long(MIXED, ROOT, plus(2, ROOT, HALF)), ONE)
        self.assertEqual(met_long(MIXED, ROOT, plus(2, ROOT, (1, 0, 3))), (2, 0, 3))
        self.assertEqual(met_long(MIXED, (1, 1, 1), (2, 1, 1)), ONE)
        self.assertEqual(met_long(MIXED, ZERO, whole_of(MIXED)), whole_of(MIXED))

    def test_two_halves_of_what_changes_places(self):
        change = of_cells([1, 1], [1, 0])
        self.assertEqual(met_long(change, HALF, (3, 0, 2)), (2, 0, 1))
        self.assertEqual(met_long(change, (1, 0, 4), (3, 0, 4)), ONE)


class Refusals(unittest.TestCase):
    def check(self, change, begin, end):
        refused(self, NoStretch, back_to, change, begin, end)
        refused(self, NoStretch, met_long, change, begin, end)

    def test_other_kinds(self):
        for change in (STILL, GOLDEN, TWELVE):
            for thing in OTHER_KINDS + [0, 1, "0", 10 ** 39]:
                self.check(change, thing, ONE)
                self.check(change, ZERO, thing)
                self.check(change, thing, thing)

    def test_bounds(self):
        tiny = (1, 0, 10 ** 39)
        for change in (STILL, GOLDEN, TWELVE):
            root, whole = change[0], whole_of(change)
            for begin, end in [
                (ZERO, ZERO), (HALF, HALF), (ONE, HALF), (whole, whole), (HALF, ZERO), (minus(root, ZERO, tiny), HALF),
                ((-1, 0, 1), ONE), (ZERO, plus(root, whole, tiny)), (HALF, times(root, whole, (2, 0, 1))),
                (whole, plus(root, whole, ONE)), (whole, HALF), ((-2, 0, 1), (-1, 0, 1)), (ZERO, (-1, 0, 1)),
            ]:
                self.check(change, begin, end)

    def test_not_in_lowest_terms_and_truths(self):
        for begin, end in [
            ((0, 0, 2), ONE), (ZERO, (2, 0, 2)), ((0, 0, True), ONE), (ZERO, (True, 0, 1)), ((False, 0, 1), ONE),
            ([0, 0, 1], ONE), (ZERO, [1, 0, 1]), (ZERO, (1, 0, -1)), (ZERO, (1, 0, 0)), (ZERO, (1, 0)),
        ]:
            self.check(STILL, begin, end)
            self.check(GOLDEN, begin, end)

    def test_of_another_root(self):
        self.check(STILL, (-1, 1, 1), ONE)
        self.check(STILL, ZERO, (-1, 1, 1))

    def test_no_stretch_comes_ahead_of_too_many(self):
        refused(self, TooMany, back_to, turned(501), ZERO, ONE)
        for begin, end in [(ZERO, True), (None, ONE), (ONE, ZERO), ((-1, 0, 1), ZERO), ((500, 0, 1), (502, 0, 1))]:
            self.check(turned(501), begin, end)


class Told(unittest.TestCase):
    def test_asked_again(self):
        for change in (STILL, GOLDEN, MIXED, FREE):
            before = repr(change)
            for begin, end in [(ZERO, ONE), (ZERO, HALF), ((1, 0, 4), (3, 0, 4))]:
                self.assertEqual(back_to(change, begin, end), back_to(change, begin, end))
                self.assertEqual(met_long(change, begin, end), met_long(change, begin, end))
            self.assertEqual(repr(change), before)

    def test_what_is_told_may_be_handed_in(self):
        back, words = back_to(FREE, ZERO, times(2, whole_of(FREE), (2, 0, 3)))
        again, others = back_to(back, ZERO, times(2, whole_of(back), HALF))
        straight, through = back_to(FREE, ZERO, whole_of(again))
        self.assertTrue(same(again, straight))
        self.assertEqual(met_long(FREE, ZERO, whole_of(again)), whole_of(FREE))
        self.assertEqual(met_long(back, ZERO, whole_of(again)), whole_of(back))
        self.assertEqual(sum([words[piece] for piece in others[0]], ()), through[0])


if __name__ == "__main__":
    unittest.main()
