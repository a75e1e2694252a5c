"""[1 to 7] What is promised over the whole program."""

import copy
import unittest
from importlib import import_module

from cutexchange import errors
from cutexchange.bands import all_back, all_bands, band_of, bands_upto, is_band
from cutexchange.changes import begins_of, came, goes, is_change, laid_of, moves_of, piece_at, whole_of
from cutexchange.desk import Desk
from cutexchange.drift import crossed, drift_of, turn_by
from cutexchange.errors import (
    NoChange, NoNumber, NoPoint, NoRow, NoStep, NoStretch, NoText, NoWord, StretchError, TooMany, Unlike,
)
from cutexchange.loops import loop_of, loop_shown
from cutexchange.meetings import meetings_of
from cutexchange.numbers import floor_of, is_number, less, minus, number_of, over, plus, simplest, times
from cutexchange.parts import parted, parts_at, side_by_side
from cutexchange.returns import back_to, met_long
from cutexchange.rows import are_rows, rows_of
from cutexchange.shares import is_share, least_share
from cutexchange.steps import is_even, step_of, steps_done, unstepped
from cutexchange.texts import change_read, change_text, number_read, number_text
from cutexchange.together import behind, is_idle, often, same, slim, undone
from cutexchange.walks import after, comes_back, word_of
from cutexchange.words import all_words, many_words, next_pieces, stretch_of
from tests.helper import (
    FREE, GOLDEN, HALF, MIXED, NAMES, ONE, OTHER_KINDS, ROOT, STILL, THREE, TWELVE, ZERO, deep, in_other_orders,
    of_cells, refused, some_cell_changes, some_changes, some_points, turns,
)
from tests.test_interface import LISTED

MANY = 10 ** 40 - 1
FORTY = (97, ((MANY, 0, MANY - 1), (MANY, MANY - 2, MANY - 4), (-1, MANY, MANY - 6)), (2, 1, 0))
FORTY_POINT = (1, 1, MANY)
PAIR = turns(3, 4)
WIDE = of_cells([3] * 12, range(11, -1, -1))
FAR = turns(2001)

# Calls that are answered, at least one of each function that the interface lists.
ANSWERED = [
    (number_of, 2, 4, 6, -8), (is_number, 2, ROOT), (is_number, 0, [ROOT]), (plus, 2, ROOT, HALF),
    (minus, 2, ROOT, HALF), (times, 2, ROOT, HALF), (over, 2, ROOT, HALF), (less, 2, ROOT, HALF), (floor_of, 2, ROOT),
    (simplest, 2, ONE, ROOT), (plus, 97, FORTY_POINT, FORTY[1][1]), (over, 97, FORTY_POINT, FORTY[1][1]),
    (simplest, 97, ZERO, FORTY_POINT), (is_change, FREE), (is_change, [FREE]), (whole_of, FREE), (begins_of, FREE),
    (moves_of, FREE), (laid_of, FREE), (piece_at, FREE, ONE), (goes, FREE, ONE), (came, FREE, ONE), (laid_of, FORTY),
    (goes, FORTY, FORTY_POINT), (after, FREE, ONE, -2000), (word_of, FREE, ONE, 2000), (comes_back, MIXED, ROOT, 2000),
    (after, FORTY, FORTY_POINT, 50), (all_words, FREE, 5), (many_words, FREE, 40), (stretch_of, FREE, (0, 3)),
    (next_pieces, FREE, (0,)), (all_words, FORTY, 5), (slim, THREE), (behind, FREE, undone(FREE)), (undone, FREE),
    (often, GOLDEN, 50), (same, FREE, undone(FREE)), (is_idle, FREE), (undone, FORTY), (often, FORTY, 2),
    (is_band, MIXED, (ROOT, (1, 2, 2), (2, 3))), (is_band, MIXED, [ROOT, [1], {1: [2]}]), (band_of, MIXED, ROOT),
    (bands_upto, MIXED, 40), (all_bands, PAIR), (all_back, PAIR), (band_of, FORTY, FORTY_POINT),
    (back_to, FREE, HALF, ONE), (met_long, FREE, HALF, ONE), (back_to, FORTY, ZERO, FORTY[1][0]), (is_even, FREE),
    (step_of, FREE), (steps_done, FREE, 9), (unstepped, FREE, 1), (steps_done, FORTY, 20), (rows_of, FREE, 5),
    (are_rows, FREE, steps_done(FREE, 5)[1], rows_of(FREE, 5)), (are_rows, FREE, FREE, [[1], {2: []}]),
    (drift_of, FREE), (turn_by, 2, ROOT, ONE), (crossed, FREE, (2, FREE[1], (1, 0, 3, 2))), (drift_of, FORTY),
    (parts_at, MIXED), (parted, MIXED), (side_by_side, [GOLDEN, GOLDEN]), (parted, TWELVE),
    (side_by_side, [FORTY, FORTY]), (meetings_of, MIXED, 2000), (meetings_of, FORTY, 20),
    (is_share, MIXED, [(ZERO, ROOT)]), (is_share, MIXED, [[ZERO], {1: [ROOT]}]), (least_share, PAIR, ONE),
    (loop_shown, GOLDEN, (0, 4, (3, -2, 1))), (loop_shown, GOLDEN, [[0], 4, {3: [1]}]), (loop_of, GOLDEN, 200),
    (loop_of, FORTY, 20), (number_text, ROOT), (change_text, FREE), (number_read, "(1-2r)/3"),
    (change_read, "2 : 1 -1+1r : 1 0"), (number_text, FORTY_POINT), (change_text, FORTY),
]

# Calls with the place of a thing that may be of whatever kind, and the class with which it is refused where it is none.
WHATEVER = [
    (NoNumber, 1, number_of, 2, 1, 1, 2), (NoNumber, 2, number_of, 2, 1, 1, 2), (NoNumber, 3, number_of, 2, 1, 1, 2),
    (NoPoint, 1, piece_at, GOLDEN, ONE), (NoPoint, 1, goes, GOLDEN, ONE), (NoPoint, 1, came, GOLDEN, ONE),
    (NoPoint, 1, after, GOLDEN, ONE, 5), (NoNumber, 2, after, GOLDEN, ONE, 5), (NoPoint, 1, word_of, GOLDEN, ONE, 5),
    (NoNumber, 2, word_of, GOLDEN, ONE, 5), (NoPoint, 1, comes_back, GOLDEN, ONE, 5),
    (NoNumber, 2, comes_back, GOLDEN, ONE, 5), (NoNumber, 1, all_words, GOLDEN, 5),
    (NoNumber, 1, many_words, GOLDEN, 5), (NoWord, 1, stretch_of, STILL, (0,)), (NoWord, 1, next_pieces, STILL, (0,)),
    (NoNumber, 1, often, GOLDEN, 5), (NoPoint, 1, band_of, GOLDEN, ONE), (NoNumber, 1, bands_upto, GOLDEN, 5),
    (NoStretch, 1, back_to, GOLDEN, ZERO, ONE), (NoStretch, 2, back_to, GOLDEN, ZERO, ONE),
    (NoStretch, 1, met_long, GOLDEN, ZERO, ONE), (NoStretch, 2, met_long, GOLDEN, ZERO, ONE),
    (NoNumber, 1, steps_done, GOLDEN, 5), (NoStep, 1, unstepped, GOLDEN, 0), (NoNumber, 1, rows_of, GOLDEN, 5),
    (NoNumber, 2, turn_by, 2, ROOT, ONE), (NoChange, 0, side_by_side, [GOLDEN]), (NoNumber, 1, meetings_of, GOLDEN, 5),
    (NoPoint, 1, least_share, PAIR, ONE), (NoNumber, 1, loop_of, GOLDEN, 5), (NoText, 0, number_read, "7"),
    (NoText, 0, change_read, "0 : 1 : 0"), (NoRow, 0, Desk().say, "show"),
]

# Lookers, the thing last: none of the other kinds is such a thing.
LOOKERS = [
    (is_number, 2), (is_number, 0), (is_change,), (is_band, GOLDEN), (is_band, STILL), (are_rows, GOLDEN, GOLDEN),
    (are_rows, STILL, STILL), (is_share, GOLDEN), (is_share, STILL), (loop_shown, GOLDEN), (loop_shown, STILL),
]

# Calls in which two things are due to be refused, and the class of the one that comes first.
FIRST_OF_TWO = [
    (NoPoint, after, GOLDEN, ROOT, 2001), (NoPoint, after, GOLDEN, None, None), (NoPoint, word_of, GOLDEN, ROOT, -1),
    (NoPoint, comes_back, GOLDEN, (-1, 0, 1), 0), (NoPoint, band_of, FAR, (2001, 0, 1)), (Unlike, behind, WIDE, STILL),
    (NoNumber, often, TWELVE, 51), (NoChange, all_bands, (2,) + FAR[1:]), (NoChange, all_back, (2,) + FAR[1:]),
    (NoStretch, back_to, turns(501), ONE, ZERO), (NoStretch, met_long, turns(501), ONE, ZERO),
    (NoNumber, rows_of, of_cells([600, 1], [1, 0]), 201), (NoStep, unstepped, STILL, None),
    (Unlike, crossed, WIDE, STILL), (NoChange, side_by_side, [STILL, GOLDEN, None]),
    (NoChange, side_by_side, [WIDE, WIDE, None]), (Unlike, side_by_side, [WIDE, TWELVE]),
    (NoChange, least_share, GOLDEN, None), (NoChange, least_share, GOLDEN, ROOT),
    (NoPoint, least_share, FAR, (2001, 0, 1)), (NoRow, Desk().say, "point 1/1"), (NoRow, Desk().say, "words 0041"),
]

TOO_MANY = [
    (behind, WIDE, of_cells([19, 17], [1, 0])), (often, TWELVE, 2), (all_bands, FAR), (all_back, FAR),
    (all_bands, turns(601)), (back_to, turns(501), ZERO, ONE), (met_long, turns(501), ZERO, ONE),
    (rows_of, FREE, 200), (crossed, WIDE, of_cells([19, 17], [1, 0])), (side_by_side, [WIDE, STILL]),
    (least_share, turns(601), ZERO),
]


def samples(seed):
    return some_changes(36, seed) + some_cell_changes(12, 30, seed) + [STILL, GOLDEN, FREE, MIXED, TWELVE, THREE]


def lists_in(thing):
    """All lists in a thing, those within tuples and lists, too."""
    if not isinstance(thing, (list, tuple)):
        return []
    within = [each for part in thing for each in lists_in(part)]
    return [thing] + within if isinstance(thing, list) else within


def sum_of(root, numbers):
    together = ZERO
    for number in numbers:
        together = plus(root, together, number)
    return together


class Interface(unittest.TestCase):
    def test_all_functions_are_looked_at(self):
        listed = {getattr(import_module(f"cutexchange.{module}"), name) for module in LISTED for name in LISTED[module]}
        self.assertEqual({action for action, *_ in ANSWERED}, listed)

    def test_classes(self):
        for name in NAMES:
            self.assertEqual(getattr(errors, name).__bases__, (StretchError,))
        self.assertEqual(StretchError.__bases__, (ValueError,))


class Answers(unittest.TestCase):
    """[4] Nothing handed in is changed, what is told is new, and the same asked again is answered alike."""

    def test_asked_again(self):
        for action, *handed in ANSWERED:
            with self.subTest(action=action.__name__):
                before = copy.deepcopy(handed)
                first = action(*handed)
                self.assertEqual(handed, before)
                again = action(*handed)
                self.assertEqual((again, type(again)), (first, type(first)))

    def test_lists_are_the_askers_own(self):
        told_lists = 0
        for action, *handed in ANSWERED:
            with self.subTest(action=action.__name__):
                first, again = action(*handed), action(*handed)
                kept = copy.deepcopy(first)
                own = {id(each) for each in lists_in(handed)} | {id(each) for each in lists_in(again)}
                for each in lists_in(first):
                    self.assertNotIn(id(each), own)
                    each.append("else")
                    told_lists += 1
                self.assertEqual(again, kept)
                self.assertEqual(action(*handed), kept)
        self.assertGreater(told_lists, 10)

    def test_a_list_handed_in_may_be_changed_afterwards(self):
        changes, share = [GOLDEN, GOLDEN], [(ZERO, ROOT)]
        both, is_one = side_by_side(changes), is_share(GOLDEN, share)
        changes.append(None)
        share.append(None)
        self.assertEqual((both, is_one), (side_by_side([GOLDEN, GOLDEN]), True))
        refused(self, NoChange, side_by_side, changes)
        self.assertIs(is_share(GOLDEN, share), False)

    def test_order_of_asking_does_not_matter(self):
        there = [action(*handed) for action, *handed in ANSWERED]
        back = [action(*handed) for action, *handed in reversed(ANSWERED)]
        self.assertEqual(there, back[::-1])


class OfWhateverKind(unittest.TestCase):
    """[3, 5] Things of whatever kind are refused with the class told, and lookers tell False of them."""

    def test_refused(self):
        for kind, at, action, *handed in WHATEVER:
            action(*handed)
            for thing in OTHER_KINDS:
                if type(thing) is str and action is number_read and thing == "1":
                    continue
                refused(self, kind, action, *handed[:at], thing, *handed[at + 1:])

    def test_lookers(self):
        for action, *handed in LOOKERS:
            for thing in (0, 1, -1, MANY):
                self.assertIs(action(*handed, thing), False)
            for thing in OTHER_KINDS:
                before = repr(thing)
                self.assertIs(action(*handed, thing), action is is_share and thing == [])
                for around in ([thing], (thing,), (thing,) * 2, (thing,) * 3, {0: thing}, (ZERO, ONE, thing)):
                    self.assertIs(action(*handed, around), False)
                self.assertEqual(repr(thing), before)

    def test_thirty_deep_and_9000_parts(self):
        shells = [lambda x: [x], lambda x: (x,), lambda x: (x, x), lambda x: {"k": x}, lambda x: (0, x, x)]
        things = [deep(12, shell) for shell in shells]
        things += [deep(30, shell) for shell in (shells[0], shells[1], shells[3])]
        things += [[ZERO] * 2200, ((ZERO, ONE),) * 1000, [(ZERO, ONE)] * 1000, {at: ZERO for at in range(2000)}]
        for action, *handed in LOOKERS:
            for thing in things:
                self.assertIs(action(*handed, thing), False)
        for kind, at, action, *handed in WHATEVER:
            for thing in things:
                refused(self, kind, action, *handed[:at], thing, *handed[at + 1:])

    def test_truths_are_no_whole_numbers(self):
        for kind, at, action, *handed in WHATEVER:
            for thing in (True, False, (True, 0, 1), (0, False, 1), (0, 0, True), (False,), (True,), [True]):
                refused(self, kind, action, *handed[:at], thing, *handed[at + 1:])


class Refusals(unittest.TestCase):
    """[5] Which refusal comes first, and that a refusal changes nothing."""

    def test_from_the_left_on(self):
        for kind, action, *handed in FIRST_OF_TWO:
            refused(self, kind, action, *handed)
        by_call = {}
        for kind, at, action, *handed in WHATEVER:
            by_call.setdefault((action, str(handed)), []).append((at, kind, action, handed))
        looked_at = 0
        for rows in by_call.values():
            for (at, kind, action, handed), (later, *_) in zip(rows, rows[1:]):
                both = list(handed)
                both[at] = both[later] = None
                refused(self, kind, action, *both)
                looked_at += 1
        self.assertGreater(looked_at, 5)

    def test_too_many(self):
        for action, *handed in TOO_MANY:
            refused(self, TooMany, action, *handed)

    def test_none_stands_under_another_one(self):
        for kind, at, action, *handed in WHATEVER:
            try:
                action(*handed[:at], None, *handed[at + 1:])
            except StretchError as error:
                self.assertIs(type(error), kind)
                self.assertTrue(str(error))
            else:
                self.fail(action)

    def test_answers_are_the_same_behind_refusals(self):
        first = [action(*handed) for action, *handed in ANSWERED]
        for kind, at, action, *handed in WHATEVER:
            refused(self, kind, action, *handed[:at], None, *handed[at + 1:])
        for action, *handed in TOO_MANY:
            refused(self, TooMany, action, *handed)
        self.assertEqual([action(*handed) for action, *handed in ANSWERED], first)


class HandedInAgain(unittest.TestCase):
    """[3] What this program told may be handed in again, whatever figures it has."""

    def test_changes(self):
        told = [step_of(FORTY)[1], steps_done(FORTY, 150)[1], unstepped(FORTY, 0), undone(FORTY), often(FORTY, 2)]
        told += [back_to(FORTY, ZERO, FORTY[1][0])[0], side_by_side([FORTY, FORTY]), change_read(change_text(FORTY))]
        told += [turn_by(97, whole_of(FORTY), FORTY_POINT), crossed(FORTY, undone(FORTY)), *parted(FORTY)]
        for change in told:
            self.assertIs(is_change(change), True)
            self.assertEqual(change_read(change_text(change)), change)
            point = times(97, whole_of(change), (1, 0, 3))
            self.assertEqual(after(change, after(change, point, 30), -30), point)
            self.assertEqual(drift_of(undone(change)), minus(0, ZERO, drift_of(change)))
            self.assertTrue(same(behind(undone(change), change), (97, (whole_of(change),), (0,))))

    def test_points_and_numbers(self):
        point = after(FORTY, FORTY_POINT, 2000)
        self.assertEqual(number_read(number_text(point)), point)
        self.assertEqual(after(FORTY, point, -2000), FORTY_POINT)
        product = FORTY_POINT
        for _ in range(6):
            product = times(97, product, product)
        self.assertEqual(over(97, product, product), ONE)
        self.assertEqual(number_read(number_text(product)), product)

    def test_papers(self):
        for change in (GOLDEN, (5, (ONE, (-1, 1, 2)), (1, 0)), (97, (ONE, ROOT), (1, 0))):
            self.assertIs(loop_shown(change, loop_of(change, 200)), True)
        for change in some_cell_changes(12, 30, "papers"):
            self.assertTrue(all(is_band(change, band) for band in all_bands(change)))
            self.assertIs(is_share(change, least_share(change, ZERO)), True)
            self.assertIs(are_rows(change, steps_done(change, 5)[1], rows_of(change, 5)), True)


class ThePromise(unittest.TestCase):
    """[7] What stays through all of this."""

    def test_behind_and_undone(self):
        for change in samples("behind"):
            points = some_points(change)[::3]
            for other in in_other_orders(change):
                try:
                    both = behind(change, other)
                except TooMany:
                    continue
                self.assertEqual(drift_of(both), plus(0, drift_of(change), drift_of(other)))
                for point in points:
                    self.assertEqual(goes(both, point), goes(other, goes(change, point)))
            for point in points:
                self.assertEqual(goes(undone(change), goes(change, point)), point)
            self.assertEqual(drift_of(undone(change)), minus(0, ZERO, drift_of(change)))

    def test_moves_by_longs_are_0_together(self):
        for change in samples("moves") + [FORTY]:
            root = change[0]
            moved = [times(root, long, move) for long, move in zip(change[1], moves_of(change))]
            self.assertEqual(sum_of(root, moved), ZERO)

    def test_words_fill_the_whole(self):
        for change in samples("words"):
            told = all_words(change, 6)
            self.assertEqual(len(told), many_words(change, 6))
            self.assertEqual(len({word for word, _, _ in told}), len(told))
            self.assertEqual([ZERO] + [end for _, _, end in told], [begin for _, begin, _ in told] + [whole_of(change)])
            for word, begin, end in told:
                self.assertTrue(less(change[0], begin, end))
                self.assertEqual(stretch_of(change, word), (begin, end))
                self.assertEqual(word_of(change, begin, 6), word)

    def test_of_fractions_all_points_come_back(self):
        looked_at = 0
        for change in samples("fractions") + some_cell_changes(36, 40, "fractions"):
            if change[0] != 0:
                continue
            self.assertEqual(drift_of(change), ZERO)
            try:
                bands = all_bands(change)
            except TooMany:
                continue
            self.assertEqual([ZERO] + [band[1] for band in bands], [band[0] for band in bands] + [whole_of(change)])
            needed = all_back(change)
            for point in some_points(change):
                self.assertEqual(needed % comes_back(change, point, 2000), 0)
                self.assertIs(is_share(change, least_share(change, point)), True)
            self.assertIsNone(loop_of(change, 200))
            looked_at += 1
        self.assertGreater(looked_at, 40)

    def test_returns(self):
        looked_at = 0
        for change in samples("returns"):
            root, whole = change[0], whole_of(change)
            for low, high in [(ZERO, HALF), ((1, 0, 4), (2, 0, 3)), ((5, 0, 9), ONE)]:
                begin, end = times(root, whole, low), times(root, whole, high)
                try:
                    back, words = back_to(change, begin, end)
                except TooMany:
                    continue
                self.assertIs(is_change(back), True)
                self.assertEqual(whole_of(back), minus(root, end, begin))
                met = sum_of(root, [times(root, long, (len(word), 0, 1)) for long, word in zip(back[1], words)])
                self.assertEqual(met_long(change, begin, end), met)
                self.assertFalse(less(root, whole, met))
                if met == whole:
                    self.assertEqual(drift_of(back), drift_of(change))
                looked_at += 1
        self.assertGreater(looked_at, 60)

    def test_steps_and_their_table(self):
        looked_at = 0
        for change in samples("steps"):
            root = change[0]
            for many in (1, 3, 8):
                lesser = steps_done(change, many)[1]
                rows = rows_of(change, many)
                self.assertEqual(drift_of(lesser), drift_of(change))
                for piece, long in enumerate(change[1]):
                    counts = [(row.count(piece), 0, 1) for row in rows]
                    self.assertEqual(sum_of(root, [times(root, *pair) for pair in zip(lesser[1], counts)]), long)
                self.assertIs(are_rows(change, lesser, rows), True)
                back, words = back_to(change, ZERO, whole_of(lesser))
                self.assertTrue(same(back, lesser))
                looked_at += lesser != change
        self.assertGreater(looked_at, 60)

    def test_the_drift_is_0_where_all_points_come_back(self):
        swap = (2, (ONE, ROOT, ONE, ROOT, (1, 1, 3)), (2, 3, 0, 1, 4))
        self.assertEqual(sum_of(2, [minus(2, end, begin) for begin, end, _ in bands_upto(swap, 40)]), whole_of(swap))
        self.assertEqual(drift_of(swap), ZERO)
        for change in samples("crossed"):
            try:
                both = crossed(change, in_other_orders(change)[0])
            except TooMany:
                continue
            self.assertEqual(drift_of(both), ZERO)

    def test_where_steps_come_round_no_point_comes_back(self):
        for root in (2, 3, 5, 6, 7):
            change = (root, ((2, 0, 1), ROOT), (1, 0))
            self.assertIs(loop_shown(change, loop_of(change, 200)), True)
            self.assertEqual(bands_upto(change, 40), [])
            for point in some_points(change):
                self.assertIsNone(band_of(change, point))

    def test_points_go_one_to_one(self):
        for change in samples("one"):
            for point in some_points(change):
                self.assertEqual(came(change, goes(change, point)), point)
                self.assertEqual(goes(change, came(change, point)), point)


if __name__ == "__main__":
    unittest.main()
