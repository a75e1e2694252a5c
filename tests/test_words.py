"""[3, 4, 5, 7, 32, 33] The words of a change, the stretches that have them, and the pieces that come behind."""

import unittest
from itertools import product

from cutexchange.changes import begins_of, came, whole_of
from cutexchange.errors import NoNumber, NoWord
from cutexchange.numbers import plus, simplest, times
from cutexchange.walks import word_of
from cutexchange.words import all_words, many_words, next_pieces, stretch_of
from tests.helper import (
    FREE, GOLDEN, ONE, OTHER_KINDS, STILL, THREE, TWELVE, ZERO, cells_of, new_each_time, of_cells, refused, rising,
    some_cell_changes, some_changes, worth,
)

FORTY = (97, ((10 ** 40 - 1, 0, 10 ** 40 - 3), (1, 10 ** 39 + 1, 10 ** 40 - 9), (0, 1, 10 ** 39)), (2, 0, 1))
# These of the other kinds are words of a change of two pieces or more.
NO_WORDS = [thing for thing in OTHER_KINDS if thing not in [(1,), (1, 0), (1, 0, 1, 1)]]


def cuts_of(change, often):
    """Where words by so many goes begin: 0, and all that comes to the begin of a piece by fewer goes."""
    cuts = [ZERO]
    for point in begins_of(change)[1:]:
        for _ in range(often):
            cuts.append(point)
            point = came(change, point)
    return rising(change[0], cuts)


class AllWords(unittest.TestCase):
    def test_golden(self):
        self.assertEqual(all_words(GOLDEN, 1), [((0,), ZERO, ONE), ((1,), ONE, (0, 1, 1))])
        self.assertEqual(all_words(GOLDEN, 3), [
            ((0, 0, 0), ZERO, (3, -2, 1)), ((0, 0, 1), (3, -2, 1), (2, -1, 1)), ((0, 1, 0), (2, -1, 1), ONE),
            ((1, 0, 0), ONE, (0, 1, 1)),
        ])

    def test_three(self):
        self.assertEqual(all_words(THREE, 2), [
            ((0, 2), ZERO, (1, 0, 2)), ((1, 2), (1, 0, 2), (5, 0, 6)), ((2, 0), (5, 0, 6), (4, 0, 3)),
            ((2, 1), (4, 0, 3), (5, 0, 3)), ((2, 2), (5, 0, 3), (17, 0, 6)),
        ])

    def test_one_piece(self):
        for often in (1, 2, 39, 40):
            self.assertEqual(all_words(STILL, often), [((0,) * often, ZERO, ONE)])
            self.assertEqual(many_words(STILL, often), 1)

    def test_by_one_go_they_are_the_pieces(self):
        for change in some_changes(36, "pieces"):
            begins = list(begins_of(change)) + [whole_of(change)]
            told = [((piece,), begins[piece], begins[piece + 1]) for piece in range(len(change[1]))]
            self.assertEqual(all_words(change, 1), told)

    def check(self, change, often):
        told = all_words(change, often)
        begins = [begin for _, begin, _ in told]
        self.assertEqual(begins, cuts_of(change, often))
        self.assertEqual([end for _, _, end in told], begins[1:] + [whole_of(change)])
        self.assertEqual(len(set(word for word, _, _ in told)), len(told))
        self.assertLessEqual(len(told), (len(change[1]) - 1) * often + 1)
        self.assertIs(type(many_words(change, often)), int)
        self.assertEqual(many_words(change, often), len(told))
        return told

    def test_where_they_begin(self):
        for change in some_changes(36, "begins"):
            for often in (1, 2, 5):
                for word, begin, end in self.check(change, often):
                    self.assertEqual((type(word), len(word)), (tuple, often))
                    self.assertEqual(word_of(change, begin, often), word)
                    self.assertEqual(word_of(change, simplest(change[0], begin, end), often), word)

    def test_40_goes(self):
        for change in (STILL, GOLDEN, THREE, FORTY, TWELVE, FREE):
            for word, begin, end in self.check(change, 40)[::7]:
                self.assertEqual(word_of(change, begin, 40), word)
                self.assertEqual(word_of(change, simplest(change[0], begin, end), 40), word)

    def test_as_many_as_there_may_be(self):
        self.assertEqual([many_words(GOLDEN, often) for often in range(1, 41)], list(range(2, 42)))
        self.assertEqual(many_words(FREE, 40), 121)

    def test_cells(self):
        for change in some_cell_changes(24, 30, "words"):
            cells, pieces = cells_of(change), [p for p, long in enumerate(change[1]) for _ in range(long[0])]
            for often in (1, 4, 17):
                found = []
                for cell in range(30):
                    place, word = cell, ()
                    for _ in range(often):
                        place, word = cells[place], word + (pieces[place],)
                    if found and found[-1][0] == word:
                        found[-1][2] = (cell + 1, 0, 1)
                    else:
                        found.append([word, (cell, 0, 1), (cell + 1, 0, 1)])
                self.assertEqual(all_words(change, often), [tuple(row) for row in found])

    def test_refused(self):
        for change in (STILL, GOLDEN, TWELVE):
            for thing in OTHER_KINDS + [0, -1, 41, 2000, 10 ** 39, -(10 ** 39), ONE]:
                refused(self, NoNumber, all_words, change, thing)
                refused(self, NoNumber, many_words, change, thing)

    def test_the_list_is_new(self):
        for change in (STILL, GOLDEN, TWELVE):
            for often in (1, 6):
                new_each_time(self, all_words, change, often)


class StretchOf(unittest.TestCase):
    def test_golden(self):
        self.assertEqual(stretch_of(GOLDEN, (0,)), (ZERO, ONE))
        self.assertEqual(stretch_of(GOLDEN, (0, 1)), ((2, -1, 1), ONE))
        self.assertIsNone(stretch_of(GOLDEN, (1, 1)))
        self.assertIsNone(stretch_of(GOLDEN, (0, 0, 0, 0)))

    def test_of_words_of_points_and_of_none(self):
        for change in (STILL, GOLDEN, THREE, FREE):
            for often in range(1, 6):
                told = {word: (begin, end) for word, begin, end in all_words(change, often)}
                for word in product(range(len(change[1])), repeat=often):
                    self.assertEqual(stretch_of(change, word), told.get(word))

    def test_of_many_pieces(self):
        for change in some_changes(36, "stretch"):
            for often in (3, 40):
                for word, begin, end in all_words(change, often)[::5]:
                    self.assertEqual(stretch_of(change, word), (begin, end))

    def test_a_word_that_only_touches(self):
        # Piece 1 comes to lie just where piece 0 ends, so that no point of it has piece 0 next.
        change = of_cells([2, 1, 1], [2, 0, 1])
        self.assertEqual(stretch_of(change, (0, 1)), ((1, 0, 1), (2, 0, 1)))
        self.assertIsNone(stretch_of(change, (1, 0)))
        self.assertIsNone(stretch_of(change, (1, 1)))
        self.assertEqual(stretch_of(change, (1, 2)), ((2, 0, 1), (3, 0, 1)))

    def test_40_pieces(self):
        self.assertEqual(stretch_of(STILL, (0,) * 40), (ZERO, ONE))
        self.assertIsNone(stretch_of(GOLDEN, (0,) * 40))
        self.assertIsNone(stretch_of(TWELVE, (11,) * 40))

    def test_the_points_have_it(self):
        for change in (GOLDEN, TWELVE, FORTY):
            root = change[0]
            for word, _, _ in all_words(change, 12):
                begin, end = stretch_of(change, word)
                middle = times(root, plus(root, begin, end), (1, 0, 2))
                self.assertEqual(word_of(change, begin, 12), word)
                self.assertEqual(word_of(change, middle, 12), word)
                if end != whole_of(change):
                    self.assertNotEqual(word_of(change, end, 12), word)


class NextPieces(unittest.TestCase):
    def test_golden(self):
        self.assertEqual(next_pieces(GOLDEN, (0,)), [0, 1])
        self.assertEqual(next_pieces(GOLDEN, (1,)), [0])
        self.assertEqual(next_pieces(GOLDEN, (0, 0)), [0, 1])
        self.assertEqual(next_pieces(GOLDEN, (1, 1)), [])

    def check(self, change, often):
        longer = [word for word, _, _ in all_words(change, often + 1)]
        for word, _, _ in all_words(change, often):
            behind = sorted(other[-1] for other in longer if other[:-1] == word)
            self.assertEqual(next_pieces(change, word), behind)

    def test_last_ones_of_longer_words(self):
        for change in some_changes(36, "next"):
            self.check(change, 1)
            self.check(change, 4)
        for change in (STILL, GOLDEN, THREE, FORTY, TWELVE, FREE):
            self.check(change, 39)

    def test_all_that_are_words_or_none(self):
        for change in (STILL, GOLDEN, THREE, FREE):
            longer = [word for word, _, _ in all_words(change, 4)]
            for word in product(range(len(change[1])), repeat=3):
                self.assertEqual(next_pieces(change, word), sorted(o[-1] for o in longer if o[:-1] == word))

    def test_behind_40_pieces(self):
        for change in (STILL, GOLDEN, THREE, TWELVE):
            longer = [word_of(change, cut, 41) for cut in cuts_of(change, 41)]
            for word, _, _ in all_words(change, 40):
                self.assertEqual(next_pieces(change, word), sorted(o[-1] for o in longer if o[:-1] == word))

    def test_many_pieces_at_once(self):
        change = of_cells([12] + [1] * 11, [*range(1, 12), 0])
        self.assertEqual(next_pieces(change, (0,)), list(range(12)))
        self.assertEqual(next_pieces(change, (5,)), [0])

    def test_kinds_of_values_and_new_lists(self):
        for change in (STILL, GOLDEN, TWELVE):
            new_each_time(self, next_pieces, change, (0,))
            new_each_time(self, next_pieces, change, (0,) * 40)


class NoWords(unittest.TestCase):
    def check(self, change, thing):
        for ask in (stretch_of, next_pieces):
            refused(self, NoWord, ask, change, thing)

    def test_other_kinds(self):
        for change in (GOLDEN, THREE, TWELVE):
            for thing in NO_WORDS + [0, 1, "0", 10 ** 39]:
                self.check(change, thing)

    def test_how_many_pieces(self):
        for change in (STILL, GOLDEN, TWELVE):
            for thing in [(), (0,) * 41, (0,) * 42, (0,) * 2000]:
                self.check(change, thing)
            for many in (1, 40):
                self.assertIn(type(stretch_of(change, (0,) * many)), (tuple, type(None)))
                self.assertIs(type(next_pieces(change, (0,) * many)), list)

    def test_pieces_that_are_none(self):
        for change in (STILL, GOLDEN, THREE, TWELVE):
            many = len(change[1])
            for thing in [many, many + 1, -1, -many, 10 ** 39, True, False, None, "0", "", (0,), [0], [], {}, ZERO]:
                for word in [(thing,), (0, thing), (thing, 0), (0,) * 39 + (thing,), (many - 1, thing, 0)]:
                    self.check(change, word)

    def test_lists_for_tuples(self):
        for thing in [[0], [0, 1], "01", {0: 1}]:
            self.check(GOLDEN, thing)


class Together(unittest.TestCase):
    def test_words_fill_the_whole(self):
        for change in some_changes(24, "fill"):
            for often in (1, 9):
                longs = [worth(change[0], end) - worth(change[0], begin) for _, begin, end in all_words(change, often)]
                self.assertTrue(all(long > 0 for long in longs))
                self.assertEqual(sum(longs), worth(change[0], whole_of(change)))

    def test_asked_again(self):
        for change in some_changes(12, "again"):
            before = repr(change)
            for ask, handed in [(all_words, 7), (many_words, 7), (stretch_of, (0, 0)), (next_pieces, (0,))]:
                self.assertEqual(ask(change, handed), ask(change, handed))
            self.assertEqual(repr(change), before)


if __name__ == "__main__":
    unittest.main()
