"""[4, 5, 92] Cuts that come, by so many goes, to where there is a cut."""

import unittest

from cutexchange.changes import begins_of, goes
from cutexchange.drift import turn_by
from cutexchange.errors import NoNumber
from cutexchange.meetings import meetings_of
from cutexchange.parts import side_by_side
from cutexchange.walks import after
from tests.helper import (
    FREE, GOLDEN, HALF, MIXED, ONE, OTHER_KINDS, ROOT, STILL, TWELVE, ZERO, cells_of, new_each_time, of_cells, refused,
    scaled_change, some_cell_changes, some_changes, turns,
)


def cell_meetings(change, most):
    """All meetings, found cell by cell, of a change of whole longs of root 0."""
    cells = cells_of(change)
    firsts = [begin[0] for begin in begins_of(change)]
    found = []
    for piece in range(1, len(firsts)):
        place, gone = cells[firsts[piece]], 1
        while gone < most and place not in firsts[1:]:
            place, gone = cells[place], gone + 1
        if place in firsts[1:]:
            found.append((piece, gone, firsts.index(place)))
    return found


def gone_one_by_one(change, most):
    """All meetings, found by one go after another."""
    begins = begins_of(change)
    found = []
    for piece in range(1, len(begins)):
        place = begins[piece]
        for gone in range(1, most + 1):
            place = goes(change, place)
            if place in begins[1:]:
                found.append((piece, gone, begins.index(place)))
                break
    return found


class MeetingsOf(unittest.TestCase):
    def test_known(self):
        self.assertEqual(meetings_of(STILL, 2000), [])
        self.assertEqual(meetings_of(GOLDEN, 2000), [])
        self.assertEqual(meetings_of(of_cells([3, 5], [1, 0]), 2000), [(1, 8, 1)])
        self.assertEqual(meetings_of(MIXED, 2000), [(2, 1, 3), (3, 1, 2), (4, 1, 4)])

    def test_the_begin_of_the_first_piece_is_no_cut(self):
        # The cut comes to 0 by one go, and to itself not ahead of three.
        turn = of_cells([2, 1], [1, 0])
        self.assertEqual(goes(turn, (2, 0, 1)), ZERO)
        self.assertEqual(meetings_of(turn, 2), [])
        self.assertEqual(meetings_of(turn, 3), [(1, 3, 1)])

    def test_cuts_that_come_to_themselves(self):
        self.assertEqual(meetings_of(of_cells([1] * 12, range(12)), 1), [(piece, 1, piece) for piece in range(1, 12)])
        self.assertEqual(meetings_of((2, GOLDEN[1], (0, 1)), 1), [(1, 1, 1)])
        self.assertEqual(meetings_of(side_by_side([GOLDEN, (2, (ROOT,), (0,))]), 1), [(2, 1, 2)])

    def test_cuts_that_come_to_others(self):
        self.assertEqual(meetings_of(of_cells([1, 1, 1], [0, 2, 1]), 5), [(1, 1, 2), (2, 1, 1)])
        self.assertEqual(meetings_of(side_by_side([GOLDEN, GOLDEN]), 2000), [(3, 1, 2)])
        # A turn cut where its last cut comes by 1 go to 0, and by another one to the first cut, which comes to none.
        turn = (2, ((-1, 1, 1), (2, -1, 1), (-1, 1, 1)), (2, 0, 1))
        self.assertEqual(meetings_of(turn, 2000), [(2, 2, 1)])
        self.assertEqual(meetings_of(turn, 1), [])
        # Cut once more where the first cut comes by a go.
        turn = (2, ((-1, 1, 1), (-1, 1, 1), (3, -2, 1), (-1, 1, 1)), (3, 0, 1, 2))
        self.assertEqual(meetings_of(turn, 2000), [(1, 1, 2), (3, 2, 1)])

    def test_only_the_first_one_of_each_cut(self):
        # Both cuts come to each other, and then to themselves.
        change = of_cells([1, 1, 1], [0, 2, 1])
        for most in (1, 2, 3, 2000):
            self.assertEqual(meetings_of(change, most), [(1, 1, 2), (2, 1, 1)])

    def test_cells(self):
        seen = set()
        for change in some_cell_changes(96, 60, "meetings"):
            for most in (1, 2, 5, 59, 60, 2000):
                told = meetings_of(change, most)
                self.assertEqual(told, cell_meetings(change, most))
                seen |= {(gone > 1, piece == other) for piece, gone, other in told}
            # All points come to themselves by 60 goes at most, so each cut has one.
            self.assertEqual([piece for piece, _, _ in told], list(range(1, len(change[1]))))
        self.assertEqual(seen, {(False, False), (False, True), (True, False), (True, True)})

    def test_numbers_with_a_root(self):
        for change in some_cell_changes(48, 40, "meetings root"):
            for most in (1, 7, 2000):
                self.assertEqual(meetings_of(scaled_change(change, 11), most), cell_meetings(change, most))

    def test_many(self):
        met = 0
        for change in some_changes(96, "meetings") + [FREE, TWELVE]:
            told = meetings_of(change, 30)
            self.assertEqual(told, gone_one_by_one(change, 30))
            met += len(told)
        self.assertGreater(met, 20)

    def test_from_1_to_2000_goes(self):
        self.assertEqual(meetings_of(turns(2000), 2000), [(1, 2000, 1)])
        self.assertEqual(meetings_of(turns(2000), 1999), [])
        self.assertEqual(meetings_of(turns(2001), 2000), [])
        self.assertEqual(meetings_of(scaled_change(turns(2000), 2), 2000), [(1, 2000, 1)])
        # Each turn's last cell goes to its first one, where but the first turn has a cut.
        self.assertEqual(meetings_of(turns(2001, 1999), 2000), [(2, 1998, 3), (3, 1, 2)])
        for many in (2, 3, 100, 1000, 1999):
            self.assertEqual(meetings_of(turns(many), many), [(1, many, 1)])
            self.assertEqual(meetings_of(turns(many), many - 1), [])

    def test_another_cut_by_1999_and_2000_goes(self):
        # A turn by 1 of 5000 cells, cut at 1000 as well: from there to the other cut are so many goes.
        for far in (1999, 2000, 2001):
            change = of_cells([1000, far, 4999 - 1000 - far, 1], [3, 0, 1, 2])
            told = meetings_of(change, 2000)
            self.assertEqual(told, cell_meetings(change, 2000))
            self.assertEqual((1, far, 2) in told, far <= 2000)

    def test_where_they_come(self):
        for change in [MIXED, side_by_side([FREE, GOLDEN])] + some_cell_changes(24, 50, "where"):
            begins = begins_of(change)
            for piece, gone, other in meetings_of(change, 2000):
                self.assertEqual(after(change, begins[piece], gone), begins[other])

    def test_turns_with_a_root_come_to_nothing(self):
        for by in (HALF, (1, 0, 3), (1, 1, 5), (-1, 1, 1)):
            self.assertEqual(meetings_of(turn_by(2, (0, 3, 7), by), 2000), [])

    def test_forty_figures(self):
        many = 10 ** 40 - 1
        change = (97, ((many, 0, many - 1), (many, many - 2, many - 4), (-1, many, many - 6)), (2, 1, 0))
        self.assertEqual(meetings_of(change, 50), gone_one_by_one(change, 50))
        other = (97, change[1] + change[1][:1], (3, 1, 2, 0))
        self.assertEqual(meetings_of(other, 2000), [(1, 1, 1), (2, 1, 2), (3, 2, 3)])

    def test_refused(self):
        for change in (STILL, GOLDEN, TWELVE, turns(2000)):
            for thing in OTHER_KINDS + [0, -1, 2001, 2002, 10 ** 39, -(10 ** 39), ONE]:
                refused(self, NoNumber, meetings_of, change, thing)


class Told(unittest.TestCase):
    def test_lists_are_new(self):
        for change in (STILL, GOLDEN, MIXED, turns(4, 5, 6)):
            new_each_time(self, meetings_of, change, 9)

    def test_kinds_of_values(self):
        for change in (MIXED, turns(4, 5, 6), of_cells([1, 1, 1], [0, 2, 1])):
            told = meetings_of(change, 2000)
            self.assertEqual(told, sorted(told))
            for meeting in told:
                self.assertEqual((type(meeting), [type(part) for part in meeting]), (tuple, [int, int, int]))


if __name__ == "__main__":
    unittest.main()
