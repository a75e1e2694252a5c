"""[4, 5, 7, 101, 102] Loop papers: steps that come round to the same change, made lesser."""

import unittest

from cutexchange.bands import band_of, bands_upto
from cutexchange.changes import is_change, whole_of
from cutexchange.drift import drift_of
from cutexchange.errors import NoNumber
from cutexchange.loops import loop_of, loop_shown
from cutexchange.numbers import is_number, less, minus, over, plus, times
from cutexchange.steps import is_even, steps_done, unstepped
from cutexchange.walks import comes_back
from tests.helper import (
    FREE, GOLDEN, HALF, MIXED, ONE, OTHER_KINDS, ROOT, STILL, TWELVE, ZERO, of_cells, refused, scaled_change,
    some_cell_changes, some_changes, some_points, turns,
)

PLUS, LESS, TWO_LESS = (1, 1, 1), (-1, 1, 1), (2, -1, 1)
GOLDEN_PAPER = (0, 4, (3, -2, 1))

# Changes of 2 to 12 pieces whose steps come round, with the steps ahead and round.
COMES_ROUND = [
    (GOLDEN, 0, 4),
    ((2, (ROOT, LESS, PLUS), (2, 1, 0)), 2, 8),
    ((3, (LESS, ROOT, PLUS), (2, 0, 1)), 2, 45),
    ((2, (ROOT, TWO_LESS, PLUS, LESS), (3, 0, 2, 1)), 21, 97),
    ((2, (TWO_LESS, PLUS, ONE, LESS), (3, 0, 1, 2)), 15, 28),
    ((2, (LESS, ROOT, ROOT, TWO_LESS, TWO_LESS), (3, 1, 4, 0, 2)), 0, 197),
    ((2, (ONE, ROOT, ONE, ROOT, ROOT, LESS), (3, 5, 2, 0, 4, 1)), 8, 35),
    ((5, (PLUS, PLUS, PLUS, ONE, PLUS, ONE), (3, 0, 2, 5, 4, 1)), 27, 47),
    ((5, (ONE, ONE, ROOT, ONE, ONE, ROOT, LESS), (2, 5, 1, 0, 6, 4, 3)), 11, 108),
    ((5, (ROOT, ROOT, ROOT, PLUS, PLUS, LESS, LESS, ONE), (4, 0, 1, 3, 7, 2, 6, 5)), 30, 48),
    ((2, (LESS, ROOT, LESS, ROOT, LESS, TWO_LESS, LESS, ROOT), (5, 7, 1, 6, 2, 3, 4, 0)), 7, 184),
    ((5, (PLUS, ONE, LESS, ONE, PLUS, PLUS, ROOT, LESS, ROOT), (2, 5, 4, 3, 0, 6, 7, 8, 1)), 68, 100),
    ((2, (LESS, ROOT, ROOT, PLUS, LESS, ROOT, ONE, ONE, ONE, ONE), (6, 7, 8, 9, 0, 1, 2, 3, 4, 5)), 7, 116),
    ((5, (LESS, PLUS, ROOT, ONE, LESS, ROOT, PLUS, ONE, PLUS, PLUS, PLUS),
      (5, 6, 7, 8, 9, 10, 0, 1, 2, 3, 4)), 45, 100),
    ((2, (PLUS, ROOT, ONE, LESS, LESS, TWO_LESS, PLUS, LESS, ONE, TWO_LESS, ROOT, TWO_LESS),
      (5, 6, 7, 8, 9, 10, 11, 0, 1, 2, 3, 4)), 0, 195),
]


def passed_by(change, most):
    """The changes to which 0, 1 and more steps lead, as long as there are steps."""
    changes = [change]
    while len(changes) <= most and not is_even(changes[-1]):
        changes.append(steps_done(changes[-1], 1)[1])
    return changes


def papers_of(change, most):
    """All loop papers by at most so many steps together, found by looking at all pairs: the first ones first."""
    changes = passed_by(change, most)
    papers = []
    for together in range(1, len(changes)):
        for around in range(1, together + 1):
            first, lesser = changes[together - around], changes[together]
            ratios = {over(change[0], long, old) for long, old in zip(lesser[1], first[1])}
            if first[2] == lesser[2] and len(ratios) == 1:
                papers.append((together - around, around, ratios.pop()))
    return papers


def longer(change, many, first_sort):
    """A change whose steps lead by so many steps, the last one of a sort, the others of sort 1, to a change."""
    for sort in [first_sort, *[1] * (many - 1)][:many]:
        change = unstepped(change, sort)
    return change


class LoopOf(unittest.TestCase):
    def test_golden(self):
        self.assertEqual(loop_of(GOLDEN, 200), GOLDEN_PAPER)
        self.assertEqual(loop_of(GOLDEN, 4), GOLDEN_PAPER)
        for most in (1, 2, 3):
            self.assertIsNone(loop_of(GOLDEN, most))

    def test_the_golden_cut(self):
        # Its longs are by one another as the whole by the longer one, so two steps come round.
        change = (5, (ONE, (-1, 1, 2)), (1, 0))
        self.assertEqual(loop_of(change, 200), (0, 2, (3, -1, 2)))
        self.assertEqual(loop_of(change, 2), (0, 2, (3, -1, 2)))
        self.assertIsNone(loop_of(change, 1))

    def test_of_several_pieces(self):
        self.assertEqual({len(change[1]) for change, _, _ in COMES_ROUND}, set(range(2, 13)))
        for change, ahead, around in COMES_ROUND:
            told = loop_of(change, 200)
            self.assertEqual(told[:2], (ahead, around))
            self.assertEqual([type(part) for part in told], [int, int, tuple])
            self.assertIs(type(told), tuple)
            changes = passed_by(change, ahead + around)
            first, lesser = changes[ahead], changes[ahead + around]
            self.assertEqual(first[2], lesser[2])
            self.assertEqual(tuple(times(change[0], told[2], long) for long in first[1]), lesser[1])

    def test_within_the_steps_and_beyond(self):
        for change, ahead, around in COMES_ROUND:
            told = loop_of(change, 200)
            self.assertEqual(loop_of(change, ahead + around), told)
            self.assertIsNone(loop_of(change, ahead + around - 1))
            self.assertIsNone(loop_of(change, 1))

    def test_against_all_pairs(self):
        for change, ahead, around in COMES_ROUND:
            if ahead + around <= 80:
                self.assertEqual(loop_of(change, 80), papers_of(change, 80)[0])
        for change in some_changes(48, "loops") + [FREE, MIXED, TWELVE, STILL]:
            papers = papers_of(change, 24)
            self.assertEqual(loop_of(change, 24), papers[0] if papers else None)

    def test_turns_of_numbers_with_a_root(self):
        for root in (2, 3, 5, 6, 7, 10, 97):
            for a, c in [(0, 1), (1, 1), (3, 1), (1, 2), (2, 3)]:
                change = (root, (ONE, (a, 1, c)), (1, 0))
                papers = papers_of(change, 60)
                self.assertEqual(loop_of(change, 60), papers[0] if papers else None)
                # Turns by a number with a root always come round, though perhaps not by 200 steps.
                told = loop_of(change, 200)
                self.assertIsNotNone(told)
                self.assertIs(loop_shown(change, told), True)

    def test_the_least_ahead_and_round_together(self):
        for change, ahead, around in COMES_ROUND[:3]:
            papers = papers_of(change, 90)
            self.assertGreater(len(papers), 30)
            least = min(papers, key=lambda paper: (paper[0] + paper[1], paper[1]))
            self.assertEqual(loop_of(change, 90), least)
            # Of the others, too, none begins further to the left or comes round sooner.
            self.assertEqual((min(paper[0] for paper in papers), min(paper[1] for paper in papers)), least[:2])

    def test_papers_of_200_steps_and_of_201(self):
        # Steps ahead, that lead from another side into the loop, so that they are no part of it.
        for ahead in (1, 2, 50, 195, 196):
            change = longer(GOLDEN, ahead, 1)
            self.assertEqual(loop_of(change, 200), (ahead, 4, (3, -2, 1)))
            self.assertEqual(loop_of(change, ahead + 4), (ahead, 4, (3, -2, 1)))
            self.assertIsNone(loop_of(change, ahead + 3))
            self.assertIs(loop_shown(change, (ahead, 4, (3, -2, 1))), True)
        for ahead in (197, 198, 250):
            change = longer(GOLDEN, ahead, 1)
            self.assertIsNone(loop_of(change, 200))
            self.assertIs(loop_shown(change, (ahead, 4, (3, -2, 1))), False)
            self.assertEqual(loop_of(steps_done(change, ahead - 196)[1], 200), (196, 4, (3, -2, 1)))

    def test_200_steps_round_and_more(self):
        change = (11, (ONE, (0, 30, 1)), (1, 0))
        told = loop_of(change, 200)
        self.assertEqual(told[:2], (0, 200))
        self.assertIsNone(loop_of(change, 199))
        self.assertIs(loop_shown(change, told), True)
        # From the other side one step leads there, so together they are 201.
        sorts = steps_done(change, 200)[0]
        before = unstepped(change, 1 - sorts[-1])
        self.assertIsNone(loop_of(before, 200))
        self.assertIs(loop_shown(before, (1, 200, told[2])), False)
        # On the loop itself one step further back is a loop as long.
        on_it = unstepped(change, sorts[-1])
        self.assertEqual(loop_of(on_it, 200), told)

    def test_a_step_back_on_the_loop(self):
        self.assertEqual(loop_of(unstepped(GOLDEN, 0), 200), (0, 4, (3, -2, 1)))
        self.assertEqual(loop_of(unstepped(GOLDEN, 1), 200), (1, 4, (3, -2, 1)))

    def test_all_as_long_again(self):
        for change, ahead, around in COMES_ROUND[:8]:
            for by in [(7, 0, 1), (2, 0, 9), (5, 1, 3), (10 ** 39, 0, 10 ** 39 - 1)]:
                other = (change[0], tuple(times(change[0], by, long) for long in change[1]), change[2])
                self.assertTrue(is_change(other))
                self.assertEqual(loop_of(other, 200), loop_of(change, 200))

    def test_where_there_is_none(self):
        for change in [STILL, of_cells([1, 300], [1, 0]), of_cells([3, 8], [1, 0]), MIXED, (2, GOLDEN[1], (0, 1))]:
            for most in (1, 7, 200):
                self.assertIsNone(loop_of(change, most))
        for change in some_cell_changes(48, 60, "none"):
            self.assertIsNone(loop_of(change, 200))
            self.assertIsNone(loop_of(scaled_change(change, 7), 200))

    def test_no_point_comes_back(self):
        for change, ahead, around in COMES_ROUND:
            self.assertEqual(bands_upto(change, 40 if len(change[1]) < 5 else 15), [])
            for point in some_points(change)[::6]:
                self.assertIsNone(comes_back(change, point, 500))
        for change, ahead, around in COMES_ROUND[:4]:
            for point in some_points(change):
                self.assertIsNone(band_of(change, point))

    def test_refused(self):
        for change in (STILL, GOLDEN, TWELVE):
            for thing in OTHER_KINDS + [0, -1, 201, 202, 2000, 10 ** 39, -(10 ** 39), ONE]:
                refused(self, NoNumber, loop_of, change, thing)

    def test_forty_figures(self):
        many = 10 ** 40 - 1
        change = (97, ((many, 0, many - 1), (many, many - 2, many - 4), (-1, many, many - 6)), (2, 1, 0))
        self.assertIsNone(loop_of(change, 200))
        # So many times GOLDEN, and some steps ahead.
        by = (many, many - 2, many - 4)
        other = (2, tuple(times(2, by, long) for long in longer(GOLDEN, 30, 1)[1]), (1, 0))
        self.assertEqual(loop_of(other, 200), (30, 4, (3, -2, 1)))
        self.assertIs(loop_shown(other, (30, 4, (3, -2, 1))), True)


class LoopShown(unittest.TestCase):
    def test_golden(self):
        self.assertIs(loop_shown(GOLDEN, GOLDEN_PAPER), True)
        # Twice round, and from each step of the loop on.
        self.assertIs(loop_shown(GOLDEN, (0, 8, times(2, (3, -2, 1), (3, -2, 1)))), True)
        for ahead in (1, 2, 3, 17, 196):
            self.assertIs(loop_shown(GOLDEN, (ahead, 4, (3, -2, 1))), True)
        by = ONE
        for around in range(4, 201, 4):
            by = times(2, by, (3, -2, 1))
            self.assertIs(loop_shown(GOLDEN, (0, around, by)), True)
            self.assertIs(loop_shown(GOLDEN, (200 - around, around, by)), True)
            self.assertIs(loop_shown(GOLDEN, (201 - around, around, by)), False)
        self.assertIs(loop_shown(GOLDEN, (0, 204, times(2, by, (3, -2, 1)))), False)

    def test_all_pairs(self):
        right = 0
        for change, ahead, around in COMES_ROUND[:3] + [(MIXED, 0, 0), (of_cells([1, 9], [1, 0]), 0, 0)]:
            changes = passed_by(change, 16)
            papers = set(papers_of(change, 16))
            for first in range(13):
                for turn in range(1, 17 - first):
                    for by in [(3, -2, 1), HALF] + [paper[2] for paper in papers][:3]:
                        thing = (first, turn, by)
                        self.assertIs(loop_shown(change, thing), thing in papers)
                    if first + turn < len(changes):
                        by = over(change[0], whole_of(changes[first + turn]), whole_of(changes[first]))
                        self.assertIs(loop_shown(change, (first, turn, by)), (first, turn, by) in papers)
                        right += (first, turn, by) in papers
        self.assertGreater(right, 10)

    def test_of_several_pieces(self):
        for change, ahead, around in COMES_ROUND:
            by = loop_of(change, 200)[2]
            self.assertIs(loop_shown(change, (ahead, around, by)), True)
            for more in (1, 3, 200 - ahead - around):
                self.assertIs(loop_shown(change, (ahead + more, around, by)), True)
            self.assertIs(loop_shown(change, (201 - around, around, by)), False)
            if ahead:
                self.assertIs(loop_shown(change, (ahead - 1, around, by)), False)
            self.assertIs(loop_shown(change, (ahead, around - 1, by)), False)
            self.assertIs(loop_shown(change, (ahead, around + 1, by)), False)

    def test_right_ones_put_otherwise(self):
        for change, ahead, around in COMES_ROUND:
            root, by = change[0], loop_of(change, 200)[2]
            near = (1, 0, 10 ** 39)
            for thing in [
                [ahead, around, by], (ahead, around), (ahead, around, by, by), (by, ahead, around), (around, by, ahead),
                {0: ahead, 1: around, 2: by}, str((ahead, around, by)), ((ahead, around, by),), [(ahead, around, by)],
                (ahead, around, list(by)), (ahead, around, by[:2]), (ahead, around, by + (1,)),
                (ahead, around, str(by)),
                (ahead, around, (2 * by[0], 2 * by[1], 2 * by[2])), (ahead, around, (-by[0], -by[1], -by[2])),
                (ahead, around, (by[0], -by[1], by[2])), (ahead, around, over(root, ONE, by)), (ahead, around, None),
                (ahead, around, minus(root, ZERO, by)), (ahead, around, times(root, by, by)), (ahead, around, ONE),
                (ahead, around, plus(root, by, near)), (ahead, around, minus(root, by, near)), (ahead, around, ZERO),
                (ahead, 0, ONE), (ahead, 0, by), (ahead, -around, by), (ahead, -around, over(root, ONE, by)),
                (ahead + around, -around, over(root, ONE, by)), (-1, around, by), (str(ahead), around, by),
                (ahead, str(around), by), ((ahead,), around, by), (ahead, [around], by), (None, around, by),
                (ahead, 10 ** 39, by), (10 ** 39, around, by), (-around, around, by), (False, around, by),
                (ahead, True, by), (True, around, by),
            ]:
                before = repr(thing)
                self.assertIs(loop_shown(change, thing), False, thing)
                self.assertEqual(repr(thing), before)

    def test_truths_for_numbers(self):
        change = (5, (ONE, (-1, 1, 2)), (1, 0))
        self.assertIs(loop_shown(change, (1, 2, (3, -1, 2))), True)
        self.assertIs(loop_shown(change, (True, 2, (3, -1, 2))), False)
        self.assertIs(loop_shown(change, (0, 2, (3, -1, 2))), True)
        self.assertIs(loop_shown(change, (False, 2, (3, -1, 2))), False)
        self.assertIs(loop_shown(GOLDEN, (0, 4, (3, -2, True))), False)

    def test_one_long_that_does_not_fit(self):
        # The orders come round by 2 steps, one long by HALF, the other one not.
        self.assertIs(loop_shown(of_cells([4, 6], [1, 0]), (0, 1, HALF)), False)
        change = (2, (LESS, (2, 0, 1), (1, 0, 1)), (2, 1, 0))
        for around in range(1, 30):
            lesser = steps_done(change, around)[1]
            for long, less_long in zip(change[1], lesser[1]):
                thing = (0, around, over(2, less_long, long))
                self.assertIs(loop_shown(change, thing), thing in papers_of(change, 30))

    def test_where_steps_end(self):
        # Nothing comes round where the steps come to an end ahead of it, even if all else would fit.
        for change in [STILL, of_cells([3, 8], [1, 0]), of_cells([1, 1], [1, 0]), MIXED, (2, GOLDEN[1], (0, 1))]:
            for ahead in (0, 1, 2, 4, 5, 100, 199):
                for around in (1, 2, 3, 50, 200):
                    for by in (ONE, HALF, ZERO, (1, 0, 3), (2, 0, 3)):
                        self.assertIs(loop_shown(change, (ahead, around, by)), False)

    def test_orders_that_differ(self):
        change = (2, (ROOT, LESS, PLUS), (2, 1, 0))
        changes = passed_by(change, 20)
        for first in range(20):
            for last in range(first + 1, 21):
                if changes[first][2] != changes[last][2]:
                    by = over(2, changes[last][1][0], changes[first][1][0])
                    self.assertIs(loop_shown(change, (first, last - first, by)), False)

    def test_of_another_root(self):
        self.assertIs(loop_shown(of_cells([1, 9], [1, 0]), GOLDEN_PAPER), False)
        self.assertIs(loop_shown((3,) + GOLDEN[1:], GOLDEN_PAPER), False)

    def test_of_whatever_kind(self):
        for change in (STILL, GOLDEN, TWELVE):
            for thing in OTHER_KINDS + [0, 1, 10 ** 39, "(0, 4, (3, -2, 1))"]:
                before = repr(thing)
                self.assertIs(loop_shown(change, thing), False)
                told = change == GOLDEN and type(thing) is int and thing in (0, 1)
                self.assertIs(loop_shown(change, (thing, 4, (3, -2, 1))), told)
                self.assertIs(loop_shown(change, (0, thing, (3, -2, 1))), False)
                self.assertIs(loop_shown(change, (0, 4, thing)), False)
                self.assertEqual(repr(thing), before)


class Told(unittest.TestCase):
    def test_asked_again(self):
        for change, ahead, around in COMES_ROUND + [(STILL, 0, 0), (TWELVE, 0, 0)]:
            before = repr(change)
            told = loop_of(change, 200)
            self.assertEqual(loop_of(change, 200), told)
            self.assertEqual(loop_shown(change, told), loop_shown(change, told))
            self.assertIs(loop_shown(change, told), told is not None)
            self.assertEqual(repr(change), before)

    def test_by_is_a_number_between_0_and_1(self):
        for change, ahead, around in COMES_ROUND:
            root, by = change[0], loop_of(change, 200)[2]
            self.assertIs(is_number(root, by), True)
            self.assertTrue(less(root, ZERO, by) and less(root, by, ONE))

    def test_the_drift_stays(self):
        for change, ahead, around in COMES_ROUND:
            changes = passed_by(change, ahead + around)
            self.assertEqual(drift_of(changes[ahead]), drift_of(changes[ahead + around]))


if __name__ == "__main__":
    unittest.main()
