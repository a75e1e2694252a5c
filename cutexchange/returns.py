"""What comes back to a part of a change, and when; and how much is met from there."""

from cutexchange.changes import MOST_PIECES, whole_of
from cutexchange.errors import NoStretch, TooMany
from cutexchange.grids import ORIGIN, Grid, change_of_parts, difference_of
from cutexchange.numbers import ZERO, is_number, less, plus, times
from cutexchange.words import cut_strand, gone_once

MOST_GOES = 500


def back_to(change, begin, end):
    """The change by which points of a stretch come back to it, and the words of its pieces."""
    must_be_stretch(change, begin, end)
    grid = Grid(change, [begin, end])
    start = grid.place_of(begin)
    strands = strands_back(grid, start, grid.place_of(end))
    if len(strands) > MOST_PIECES:
        raise TooMany("what comes back has more than twelve pieces")
    parts = [(difference_of(high, low), low) for word, first, low, high in strands]
    return (change_of_parts(grid, parts, start), tuple([strand[0] for strand in strands]))


def met_long(change, begin, end):
    """The long of all points to which points of a stretch come."""
    back, words = back_to(change, begin, end)
    root, longs, order = back
    met = ZERO
    for long, word in zip(longs, words):
        met = plus(root, met, times(root, long, (len(word), 0, 1)))
    return met


def must_be_stretch(change, begin, end):
    """Refuses what is no stretch of a change."""
    root = change[0]
    if not is_number(root, begin) or not is_number(root, end):
        raise NoStretch("a stretch is told by two numbers of the root")
    if less(root, begin, ZERO) or not less(root, begin, end) or less(root, whole_of(change), end):
        raise NoStretch("a stretch begins from 0 on, ends behind that, and at most at the whole")


def strands_back(grid, begin, end):
    """The strands of a stretch's points when they are back in it, rising by where they begin at first."""
    edges = [ORIGIN, begin, end, grid.edges[-1]]
    ways = [(False, ((), begin, begin, end))]
    for each in range(MOST_GOES):
        ways = gone_until_back(grid, edges, ways)
    if not all(is_back for is_back, strand in ways):
        raise TooMany("a way back has more than 500 goes")
    return [strand for is_back, strand in ways]


def gone_until_back(grid, edges, ways):
    """The ways (whether it is back, strand) by one go more, but those that are back as they are."""
    gone = []
    for is_back, strand in ways:
        if is_back:
            gone.append((True, strand))
        else:
            for moved in gone_once(grid, [strand]):
                # Between the second edge and the third one lies the stretch itself.
                gone.extend([(at == 1, part) for at, part in cut_strand(grid.root, edges, moved)])
    return gone
