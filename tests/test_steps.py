"""[4, 5, 7, 71, 72, 73] Even changes, steps to lesser ones, and the way back from there."""

import unittest
from itertools import permutations

from cutexchange.changes import is_change, whole_of
from cutexchange.errors import NoNumber, NoStep
from cutexchange.numbers import minus
from cutexchange.returns import back_to
from cutexchange.steps import is_even, step_of, steps_done, unstepped
from tests.helper import (
    FREE, GOLDEN, HALF, ONE, OTHER_KINDS, STILL, TWELVE, ZERO, of_cells, refused, some_cell_changes, some_changes,
    worth,
)


def evenly(change):
    """Whether the last piece, and the last one behind the go, are one or of one worth."""
    root, longs, order = change
    return order[-1] == len(longs) - 1 or longs[order[-1]] == longs[-1]


def by_names(change):
    """A step as of named pieces: two rows of names, and each name's long; put back into numbers at the end."""
    root, longs, order = change
    names = "abcdefghijkl"[:len(longs)]
    above, below = list(names), [names[piece] for piece in order]
    long_of = dict(zip(names, longs))
    top, bottom = above[-1], below[-1]
    if worth(root, long_of[top]) > worth(root, long_of[bottom]):
        sort, longer, shorter, row = 0, top, bottom, below
    else:
        sort, longer, shorter, row = 1, bottom, top, above
    long_of[longer] = minus(root, long_of[longer], long_of[shorter])
    row.remove(shorter)
    row.insert(row.index(longer) + 1, shorter)
    lesser = (root, tuple(long_of[name] for name in above), tuple(above.index(name) for name in below))
    return sort, lesser


def samples(seed):
    return some_changes(120, seed) + some_cell_changes(60, 50, seed) + [STILL, GOLDEN, FREE, TWELVE]


class IsEven(unittest.TestCase):
    def test_known(self):
        for change in [
            STILL, (0, (HALF, HALF), (1, 0)), (2, GOLDEN[1], (0, 1)), of_cells([2, 1, 2], [1, 2, 0]),
            of_cells([1, 2, 3], [1, 0, 2]), of_cells([1] * 12, [*range(1, 12), 0]), of_cells([1, 2], [0, 1]),
            (2, ((1, 1, 2), ONE, (1, 1, 2)), (2, 1, 0)),
        ]:
            self.assertIs(is_even(change), True)
        for change in [GOLDEN, FREE, TWELVE, of_cells([1, 2], [1, 0]), of_cells([1, 1, 2], [2, 1, 0])]:
            self.assertIs(is_even(change), False)

    def test_many(self):
        for change in samples("even"):
            self.assertIs(is_even(change), evenly(change))

    def test_very_near_to_even(self):
        near = (0, ((10 ** 39, 0, 10 ** 39 - 1), (10 ** 39 + 1, 0, 10 ** 39)), (1, 0))
        self.assertIs(is_even(near), False)
        self.assertEqual(step_of(near)[0], 1)
        self.assertEqual(step_of((0, near[1][::-1], (1, 0)))[0], 0)
        self.assertIs(is_even((0, near[1][:1] * 2, (1, 0))), True)


class StepOf(unittest.TestCase):
    def test_golden(self):
        self.assertEqual(step_of(GOLDEN), (1, (2, ((2, -1, 1), (-1, 1, 1)), (1, 0))))
        self.assertEqual(step_of((2, GOLDEN[1][::-1], (1, 0))), (0, (2, ((-1, 1, 1), (2, -1, 1)), (1, 0))))

    def test_sort_0(self):
        # Piece 1 is taken off piece 3, and comes behind it, behind the go.
        self.assertEqual(step_of(of_cells([1, 2, 3, 5], [3, 0, 2, 1])), (0, of_cells([1, 2, 3, 3], [3, 1, 0, 2])))
        self.assertEqual(step_of(of_cells([1, 2, 5], [0, 2, 1])), (0, of_cells([1, 2, 3], [0, 2, 1])))

    def test_sort_1(self):
        # Piece 3 is taken off piece 1, and comes behind it, ahead of the go: it is piece 2 then.
        self.assertEqual(step_of(of_cells([1, 5, 3, 2], [3, 0, 2, 1])), (1, of_cells([1, 3, 2, 3], [2, 0, 3, 1])))
        self.assertEqual(step_of(of_cells([1, 5, 2], [0, 2, 1])), (1, of_cells([1, 3, 2], [0, 2, 1])))

    def test_all_orders_of_five(self):
        for order in permutations(range(5)):
            for lengths in ([3, 5, 2, 7, 4], [6, 5, 7, 2, 1], [1, 2, 3, 4, 5]):
                change = of_cells(lengths, order)
                if evenly(change):
                    refused(self, NoStep, step_of, change)
                else:
                    self.assertEqual(step_of(change), by_names(change))

    def test_many(self):
        seen = set()
        for change in samples("step"):
            for _ in range(15):
                if evenly(change):
                    refused(self, NoStep, step_of, change)
                    break
                sort, lesser = step_of(change)
                self.assertEqual((sort, lesser), by_names(change))
                self.assertIs(type(sort), int)
                self.assertTrue(is_change(lesser))
                seen.add((sort, len(lesser[1])))
                change = lesser
        self.assertTrue({(sort, many) for sort in (0, 1) for many in range(2, 13)} <= seen)

    def test_a_step_is_a_return(self):
        looked_at = 0
        for change in samples("return"):
            if evenly(change):
                continue
            sort, lesser = step_of(change)
            root, longs, order = change
            shorter = longs[order[-1]] if sort == 0 else longs[-1]
            self.assertEqual(whole_of(lesser), minus(root, whole_of(change), shorter))
            self.assertEqual(back_to(change, ZERO, whole_of(lesser))[0], lesser)
            looked_at += 1
        self.assertGreater(looked_at, 100)

    def test_even_ones_are_refused(self):
        for change in [STILL, (0, (HALF, HALF), (1, 0)), of_cells([1, 2, 3], [1, 0, 2]), (2, GOLDEN[1], (0, 1))]:
            refused(self, NoStep, step_of, change)


class StepsDone(unittest.TestCase):
    def test_known(self):
        self.assertEqual(steps_done(STILL, 200), ([], STILL))
        self.assertEqual(steps_done(GOLDEN, 0), ([], GOLDEN))
        self.assertEqual(steps_done(GOLDEN, 1), ([1], (2, ((2, -1, 1), (-1, 1, 1)), (1, 0))))
        self.assertEqual(steps_done(GOLDEN, 5)[0], [1, 1, 0, 0, 1])
        self.assertEqual(steps_done(of_cells([3, 8], [1, 0]), 200), ([0, 0, 1, 0], of_cells([1, 1], [1, 0])))

    def test_one_after_another(self):
        for change in samples("done"):
            sorts, lesser = [], change
            for most in range(12):
                self.assertEqual(steps_done(change, most), (sorts, lesser))
                if not evenly(lesser):
                    sort, lesser = by_names(lesser)
                    sorts = sorts + [sort]

    def test_200_steps(self):
        for change in (GOLDEN, of_cells([1, 300], [1, 0]), of_cells([300, 1], [1, 0])):
            sorts, lesser = steps_done(change, 200)
            self.assertEqual(len(sorts), 200)
            self.assertEqual(steps_done(lesser, 0), ([], lesser))
            sorts_before, before = steps_done(change, 199)
            self.assertEqual((sorts_before + [step_of(before)[0]], step_of(before)[1]), (sorts, lesser))
        self.assertEqual(steps_done(of_cells([1, 300], [1, 0]), 200), ([0] * 200, of_cells([1, 100], [1, 0])))
        self.assertEqual(steps_done(of_cells([300, 1], [1, 0]), 200), ([1] * 200, of_cells([100, 1], [1, 0])))

    def test_until_an_even_change_comes(self):
        for many in (2, 3, 150, 201):
            told = steps_done(of_cells([1, many], [1, 0]), 200)
            self.assertEqual(told, ([0] * (many - 1), of_cells([1, 1], [1, 0])))
        for change in some_cell_changes(60, 30, "until"):
            sorts, lesser = steps_done(change, 200)
            self.assertTrue(evenly(lesser) or len(sorts) == 200)
            self.assertLess(len(sorts), 30)

    def test_refused(self):
        for change in (STILL, GOLDEN, TWELVE):
            for thing in OTHER_KINDS + [-1, 201, 202, 2000, 10 ** 39, -(10 ** 39), ONE]:
                refused(self, NoNumber, steps_done, change, thing)

    def test_the_list_is_new(self):
        for change in (STILL, GOLDEN, TWELVE):
            for most in (0, 7):
                first = steps_done(change, most)
                self.assertIs(type(first), tuple)
                self.assertIs(type(first[0]), list)
                kept = list(first[0])
                first[0].append("else")
                self.assertEqual(steps_done(change, most)[0], kept)


class Unstepped(unittest.TestCase):
    def test_golden(self):
        self.assertEqual(unstepped((2, ((2, -1, 1), (-1, 1, 1)), (1, 0)), 1), GOLDEN)
        self.assertEqual(unstepped(GOLDEN, 0), (2, (ONE, (0, 1, 1)), (1, 0)))
        self.assertEqual(unstepped(GOLDEN, 1), (2, ((0, 1, 1), (-1, 1, 1)), (1, 0)))

    def test_known(self):
        self.assertEqual(unstepped(of_cells([1, 2, 3, 3], [3, 1, 0, 2]), 0), of_cells([1, 2, 3, 5], [3, 0, 2, 1]))
        self.assertEqual(unstepped(of_cells([1, 3, 2, 3], [2, 0, 3, 1]), 1), of_cells([1, 5, 3, 2], [3, 0, 2, 1]))
        # Even changes are come to, too.
        self.assertEqual(unstepped(of_cells([1, 1], [1, 0]), 0), of_cells([1, 2], [1, 0]))
        self.assertEqual(unstepped(of_cells([1, 1], [1, 0]), 1), of_cells([2, 1], [1, 0]))

    def test_a_step_leads_there(self):
        looked_at = 0
        for change in samples("un") + [of_cells([3, 1, 2, 2], order) for order in permutations(range(4))]:
            last = change[2][-1] == len(change[1]) - 1
            for sort in (0, 1):
                if last:
                    refused(self, NoStep, unstepped, change, sort)
                else:
                    before = unstepped(change, sort)
                    self.assertTrue(is_change(before))
                    self.assertEqual(step_of(before), (sort, change))
                    looked_at += 1
        self.assertGreater(looked_at, 200)

    def test_a_step_undone(self):
        for change in samples("and back"):
            for _ in range(10):
                if evenly(change):
                    break
                sort, lesser = step_of(change)
                self.assertEqual(unstepped(lesser, sort), change)
                change = lesser

    def test_sorts_that_are_none(self):
        for change in (GOLDEN, FREE, TWELVE, STILL):
            for thing in OTHER_KINDS + [2, -1, 3, 10 ** 39, "0", ZERO, ONE]:
                refused(self, NoStep, unstepped, change, thing)

    def test_last_ones(self):
        for change in [STILL, of_cells([1, 2], [0, 1]), (2, GOLDEN[1], (0, 1)), of_cells([1] * 12, range(12))]:
            for sort in (0, 1, 2, True, None):
                refused(self, NoStep, unstepped, change, sort)


class Told(unittest.TestCase):
    def test_asked_again(self):
        for change in (GOLDEN, FREE, TWELVE):
            before = repr(change)
            self.assertEqual(step_of(change), step_of(change))
            self.assertEqual(steps_done(change, 9), steps_done(change, 9))
            self.assertEqual(unstepped(change, 0), unstepped(change, 0))
            self.assertEqual(is_even(change), is_even(change))
            self.assertEqual(repr(change), before)

    def test_forty_figures(self):
        many = 10 ** 40 - 1
        change = (97, ((many, 0, many - 1), (many, many - 2, many - 4), (-1, many, many - 6)), (2, 1, 0))
        sorts, lesser = steps_done(change, 200)
        for sort in reversed(sorts):
            lesser = unstepped(lesser, sort)
        self.assertEqual(lesser, change)


if __name__ == "__main__":
    unittest.main()
