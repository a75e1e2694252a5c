"""[4, 5, 7, 72, 73] The rows of steps, and the look at whether a thing is rows from a change to another one."""

import unittest

from cutexchange.changes import begins_of, goes, moves_of, piece_at, whole_of
from cutexchange.errors import NoNumber, TooMany
from cutexchange.numbers import less, plus, times
from cutexchange.returns import back_to
from cutexchange.rows import are_rows, rows_of
from cutexchange.steps import steps_done, unstepped
from cutexchange.together import often, slim
from tests.helper import (
    FREE, GOLDEN, ONE, OTHER_KINDS, STILL, TWELVE, ZERO, of_cells, refused, some_cell_changes, some_changes,
    some_points,
)


def own(change):
    """The rows without steps: each piece its own."""
    return tuple((piece,) for piece in range(len(change[1])))


def of_row_lengths(left, right):
    """A change of two pieces whose rows, when an even one comes, have so many pieces; and how many steps these are."""
    sorts = []
    while (left, right) != (1, 1):
        sorts.append(0 if left > right else 1)
        left, right = (left - right, right) if left > right else (left, right - left)
    change = of_cells([1, 1], [1, 0])
    for sort in sorts:
        change = unstepped(change, sort)
    return change, len(sorts)


def samples(seed):
    return some_changes(60, seed) + some_cell_changes(36, 50, seed) + [STILL, GOLDEN, FREE, TWELVE]


class RowsOf(unittest.TestCase):
    def test_golden(self):
        self.assertEqual(rows_of(GOLDEN, 0), ((0,), (1,)))
        self.assertEqual(rows_of(GOLDEN, 1), ((0,), (0, 1)))
        self.assertEqual(rows_of(GOLDEN, 2), ((0,), (0, 0, 1)))
        self.assertEqual(rows_of(GOLDEN, 3), ((0, 0, 0, 1), (0, 0, 1)))

    def test_of_four_pieces(self):
        self.assertEqual(rows_of(of_cells([1, 2, 3, 5], [3, 0, 2, 1]), 1), ((0,), (1, 3), (2,), (3,)))
        self.assertEqual(rows_of(of_cells([1, 5, 3, 2], [3, 0, 2, 1]), 1), ((0,), (1,), (1, 3), (2,)))

    def test_without_steps(self):
        for change in samples("none"):
            self.assertEqual(rows_of(change, 0), own(change))
        for change in (STILL, of_cells([1, 2, 3], [1, 0, 2]), of_cells([1] * 12, [*range(1, 12), 0])):
            self.assertEqual(rows_of(change, 200), own(change))

    def test_pieces_that_are_passed(self):
        looked_at = 0
        for change in samples("passed"):
            root = change[0]
            for most in (1, 2, 3, 8, 12):
                lesser = steps_done(change, most)[1]
                rows, whole = rows_of(change, most), whole_of(lesser)
                self.assertEqual((type(rows), len(rows)), (tuple, len(lesser[1])))
                for point in some_points(lesser)[::3]:
                    place, passed = goes(change, point), (piece_at(change, point),)
                    while not less(root, place, whole):
                        place, passed = goes(change, place), passed + (piece_at(change, place),)
                    self.assertEqual(rows[piece_at(lesser, point)], passed)
                    self.assertEqual(place, goes(lesser, point))
                looked_at += 1
        self.assertGreater(looked_at, 300)

    def test_steps_are_returns(self):
        for change in samples("returns"):
            for most in (1, 5, 11):
                lesser = steps_done(change, most)[1]
                self.assertEqual(back_to(change, ZERO, whole_of(lesser)), (lesser, rows_of(change, most)))

    def test_the_table_leads_the_longs_back(self):
        for change in samples("longs"):
            root, longs, order = change
            lesser, rows = steps_done(change, 9)[1], rows_of(change, 9)
            for piece, long in enumerate(longs):
                led = ZERO
                for row, short in zip(rows, lesser[1]):
                    led = plus(root, led, times(root, short, (row.count(piece), 0, 1)))
                self.assertEqual(led, long)

    def test_until_an_even_change_comes(self):
        change = of_cells([1, 150], [1, 0])
        self.assertEqual(rows_of(change, 200), ((0,) + (1,) * 149, (1,)))
        self.assertEqual(rows_of(change, 149), ((0,) + (1,) * 149, (1,)))
        self.assertEqual(rows_of(change, 148), ((0,) + (1,) * 148, (1,)))

    def test_200_steps(self):
        change = of_cells([1, 300], [1, 0])
        self.assertEqual(rows_of(change, 200), ((0,) + (1,) * 200, (1,)))
        self.assertEqual(rows_of(change, 199), ((0,) + (1,) * 199, (1,)))

    def test_500_pieces_and_more(self):
        for left, right in [(500, 309), (309, 500), (500, 301)]:
            change, steps = of_row_lengths(left, right)
            self.assertLessEqual(steps, 200)
            for most in (steps, 200):
                rows = rows_of(change, most)
                self.assertEqual([len(row) for row in rows], [left, right])
                self.assertTrue(are_rows(change, steps_done(change, most)[1], rows))
        for left, right in [(501, 310), (310, 501), (501, 301), (811, 501), (501, 811)]:
            change, steps = of_row_lengths(left, right)
            self.assertLessEqual(steps, 199)
            for most in (steps, steps + 1, 200):
                refused(self, TooMany, rows_of, change, most)

    def test_too_many_comes_with_the_step_that_brings_it(self):
        change, steps = of_row_lengths(501, 310)
        self.assertEqual([len(row) for row in rows_of(change, steps - 1)], [191, 310])
        refused(self, TooMany, rows_of, change, steps)
        for golden in (GOLDEN, FREE, TWELVE):
            fitting = 0
            while True:
                try:
                    rows = rows_of(golden, fitting)
                except TooMany:
                    break
                fitting += 1
            self.assertLessEqual(max(len(row) for row in rows), 500)
            for most in range(fitting, 201, 13):
                refused(self, TooMany, rows_of, golden, most)

    def test_refused(self):
        for change in (STILL, GOLDEN, TWELVE):
            for thing in OTHER_KINDS + [-1, 201, 202, 2000, 10 ** 39, -(10 ** 39), ONE]:
                refused(self, NoNumber, rows_of, change, thing)

    def test_the_number_is_looked_at_first(self):
        refused(self, TooMany, rows_of, GOLDEN, 200)
        for thing in (201, True, None, "200", [200], (200,)):
            refused(self, NoNumber, rows_of, GOLDEN, thing)

    def test_asked_again(self):
        for change in (GOLDEN, FREE, TWELVE):
            before = repr(change)
            self.assertEqual(rows_of(change, 6), rows_of(change, 6))
            self.assertEqual(repr(change), before)


def changed_rows(rows, pieces):
    """Tables that differ from the rows in one way each, and are none."""
    first, rest = rows[0], rows[1:]
    tables = [rows + rows[:1], rows[:-1], (), list(rows), tuple(list(row) for row in rows), (rows,)]
    tables.append(dict(enumerate(rows)))
    tables += [(first + first[-1:],) + rest, (first[:-1],) + rest, ((),) + rest, ((pieces,) + first[1:],) + rest]
    tables += [((-1,) + first[1:],) + rest, ((None,) + first[1:],) + rest, (("0",) + first[1:],) + rest]
    tables += [(first[:-1] + ((0,),),) + rest, (None,) + rest, (0,) + rest, (list(first),) + rest, str(rows)]
    tables += [(first + first,) + rest, rows[::-1], rows[1:] + rows[:1]]
    other = (first[0] + 1) % pieces
    tables += [((other,) + first[1:],) + rest, (first[::-1],) + rest]
    return [table for table in tables if table != rows]


class AreRows(unittest.TestCase):
    def test_rows_of_steps(self):
        for change in samples("are"):
            for most in (0, 1, 2, 7, 12):
                lesser, rows = steps_done(change, most)[1], rows_of(change, most)
                self.assertIs(are_rows(change, lesser, rows), True)

    def test_right_ones_put_otherwise(self):
        for change in samples("wrong"):
            for most in (0, 1, 6):
                lesser, rows = steps_done(change, most)[1], rows_of(change, most)
                for thing in changed_rows(rows, len(change[1])):
                    self.assertIs(are_rows(change, lesser, thing), False, (change, lesser, thing))

    def test_another_lesser_change(self):
        for change in samples("lesser"):
            lesser, rows = steps_done(change, 4)[1], rows_of(change, 4)
            others = [steps_done(change, most)[1] for most in (0, 1, 2, 3, 5)] + [STILL, GOLDEN, TWELVE, change]
            others.append((change[0], tuple(times(change[0], long, (1, 0, 2)) for long in lesser[1]), lesser[2]))
            others.append((change[0], tuple(times(change[0], long, (2, 0, 1)) for long in lesser[1]), lesser[2]))
            others += [(change[0], lesser[1], order) for order in (lesser[2][::-1], lesser[2][1:] + lesser[2][:1])]
            for other in others:
                if other[0] == change[0] and other[:2] != lesser[:2]:
                    self.assertIs(are_rows(change, other, rows), False)
                elif other[0] == change[0]:
                    self.assertIs(are_rows(change, other, rows), moves_of(other) == moves_of(lesser))

    def test_of_what_comes_back_where_all_is_met(self):
        for change in (GOLDEN, FREE):
            for part in [(1, 0, 2), (2, 0, 3), (9, 0, 10), (1, 0, 5)]:
                back, words = back_to(change, ZERO, times(2, whole_of(change), part))
                self.assertIs(are_rows(change, back, words), True)

    def test_a_part_is_not_met(self):
        change = of_cells([1, 1, 1, 1], [1, 0, 3, 2])
        back, words = back_to(change, ZERO, ONE)
        self.assertEqual((back, words), (STILL, ((0, 1),)))
        self.assertIs(are_rows(change, back, words), False)
        self.assertIs(are_rows(of_cells([1, 1], [1, 0]), back, words), True)

    def test_a_place_on_the_way_below_the_lesser_whole(self):
        # All else is right: the piece walks through piece 0 twice, is where it was, and that makes the whole.
        self.assertIs(are_rows(of_cells([1, 1], [0, 1]), STILL, ((0, 0),)), False)
        self.assertIs(are_rows(of_cells([1], [0]), STILL, ((0,),)), True)
        self.assertIs(are_rows(of_cells([1, 1, 2], [0, 1, 2]), of_cells([1, 1], [0, 1]), ((0,), (1, 1, 1))), False)
        twice = often(GOLDEN, 2)
        self.assertIs(are_rows(GOLDEN, twice, ((0, 0), (0, 1))), False)

    def test_a_piece_that_does_not_walk_whole_through_one(self):
        # Pieces 0 and 1 go alike, so that all but the pieces themselves is right.
        change = of_cells([1, 1, 1], [2, 0, 1])
        lesser = slim(change)
        self.assertEqual(lesser, of_cells([2, 1], [1, 0]))
        for rows in [((0,), (2,)), ((1,), (2,)), ((2,), (2,))]:
            self.assertIs(are_rows(change, lesser, rows), False)
        self.assertIs(are_rows(lesser, change, ((0,), (0,), (1,))), True)
        self.assertIs(are_rows(lesser, change, ((0,), (1,), (1,))), False)

    def test_not_where_the_other_leads(self):
        self.assertIs(are_rows(GOLDEN, (2, GOLDEN[1], (0, 1)), ((0,), (1,))), False)
        self.assertIs(are_rows(GOLDEN, GOLDEN, ((0,), (1,))), True)
        idle = of_cells([1, 1, 2], [0, 1, 2])
        self.assertIs(are_rows(idle, of_cells([1, 1, 2], [1, 0, 2]), own(idle)), False)

    def test_a_whole_that_is_not_lesser(self):
        self.assertIs(are_rows(STILL, of_cells([2], [0]), ((0,),)), False)
        self.assertIs(are_rows(STILL, of_cells([1, 1], [0, 1]), ((0,), (0,))), False)
        self.assertIs(are_rows(of_cells([1, 2], [1, 0]), of_cells([2, 2], [1, 0]), ((0,), (1,))), False)

    def test_of_another_root(self):
        self.assertIs(are_rows(STILL, (2,) + STILL[1:], ((0,),)), False)
        self.assertIs(are_rows((2,) + STILL[1:], STILL, ((0,),)), False)
        self.assertIs(are_rows((2,) + STILL[1:], (2,) + STILL[1:], ((0,),)), True)

    def test_of_many_pieces(self):
        for left, right in [(500, 309), (501, 310), (4000, 2473)]:
            change, steps = of_row_lengths(left, right)
            lesser = steps_done(change, steps)[1]
            rows = back_rows(change, lesser)
            self.assertEqual([len(row) for row in rows], [left, right])
            self.assertIs(are_rows(change, lesser, rows), True)
            self.assertIs(are_rows(change, lesser, (rows[0][:-1], rows[1])), False)
            self.assertIs(are_rows(change, lesser, (rows[0], rows[1] + rows[1][:1])), False)
            self.assertIs(are_rows(change, lesser, (rows[0][1:] + rows[0][:1], rows[1])), False)

    def test_truths_for_pieces(self):
        self.assertIs(are_rows(STILL, STILL, ((False,),)), False)
        self.assertIs(are_rows(GOLDEN, GOLDEN, ((0,), (True,))), False)
        self.assertIs(are_rows(GOLDEN, GOLDEN, ((False,), (1,))), False)

    def test_of_whatever_kind(self):
        for change in (STILL, GOLDEN, FREE, TWELVE):
            for thing in OTHER_KINDS + [-1, 12, ZERO, 10 ** 39]:
                before = repr(thing)
                self.assertIs(are_rows(change, change, thing), False)
                self.assertIs(are_rows(change, change, (thing,) + own(change)[1:]), False)
                self.assertIs(are_rows(change, change, ((thing,),) + own(change)[1:]), False)
                self.assertIs(are_rows(change, change, own(change)[:-1] + ((0, thing),)), False)
                self.assertEqual(repr(thing), before)

    def test_asked_again(self):
        for change in (GOLDEN, FREE, TWELVE):
            lesser, rows = steps_done(change, 6)[1], rows_of(change, 6)
            before = repr((change, lesser, rows))
            self.assertIs(are_rows(change, lesser, rows), True)
            self.assertIs(are_rows(change, lesser, rows), True)
            self.assertEqual(repr((change, lesser, rows)), before)


def back_rows(change, lesser):
    """The rows as they are walked, however long they are."""
    rows = []
    for point in begins_of(lesser):
        place, passed = goes(change, point), [piece_at(change, point)]
        while not less(change[0], place, whole_of(lesser)):
            passed.append(piece_at(change, place))
            place = goes(change, place)
        rows.append(tuple(passed))
    return tuple(rows)


if __name__ == "__main__":
    unittest.main()
