"""Bands: stretches of points that come to themselves by the goes of one word."""

from cutexchange.changes import are_pieces, moves_of, whole_of
from cutexchange.errors import NoChange, TooMany
from cutexchange.grids import ORIGIN, Grid, sum_of
from cutexchange.numbers import ZERO, is_number, least_that_both_divide, must_be_from_to, plus
from cutexchange.walks import comes_back, word_of
from cutexchange.words import strands_by, stretch_told, stretch_with_word

MOST_GOES = 2000
MOST_GOES_OF_ALL = 40
MOST_BANDS = 600


def is_band(change, thing):
    """Whether a thing, of whatever kind, is a band."""
    if not isinstance(thing, tuple) or len(thing) != 3:
        return False
    begin, end, word = thing
    if not is_number(change[0], begin) or not is_number(change[0], end) or not are_pieces(change, word):
        return False
    grid = Grid(change, [])
    # All points that have the word are moved alike, so where one of them comes to itself, all do.
    return goes_to_come_back(grid, word) == len(word) and stretch_with_word(grid, word) == (begin, end)


def band_of(change, point):
    """The band that a point is in; None where it doesn't come to itself by 2000 goes."""
    needed = comes_back(change, point, MOST_GOES)
    if needed is None:
        return None
    word = word_of(change, point, needed)
    begin, end = stretch_with_word(Grid(change, []), word)
    return (begin, end, word)


def bands_upto(change, most):
    """All bands by at most so many goes, rising by their begins."""
    must_be_from_to(most, 1, MOST_GOES_OF_ALL)
    grid = Grid(change, [])
    bands = []
    # Points of one band have one word by more goes, too: that of the band, over and over.
    for strand in strands_by(grid, most):
        needed = goes_to_come_back(grid, strand[0])
        if needed is not None:
            begin, end = stretch_told(grid, strand)
            bands.append((begin, end, strand[0][:needed]))
    return bands


def all_bands(change):
    """All bands of a change of root 0, rising by their begins."""
    if change[0] != 0:
        raise NoChange("the change is not one of fractions")
    found = {}
    bands = []
    begin, whole = ZERO, whole_of(change)
    # The bands fill the whole, so where one of them ends, the next one begins.
    while begin != whole:
        if begin not in found:
            for band in bands_on_way(change, begin):
                found[band[0]] = band
            if len(found) > MOST_BANDS:
                raise TooMany("there are more than 600 bands")
        bands.append(found[begin])
        begin = found[begin][1]
    return bands


def all_back(change):
    """The least number of goes, from 1 on, by which all points of a change of root 0 come to themselves."""
    goes_of_all = 1
    for begin, end, word in all_bands(change):
        goes_of_all = least_that_both_divide(goes_of_all, len(word))
    return goes_of_all


def bands_on_way(change, point):
    """The band that a point is in, and those to which it comes, of a change of root 0."""
    band = band_of(change, point)
    if band is None:
        raise TooMany("a band has more than 2000 goes")
    begin, end, word = band
    moves = moves_of(change)
    bands = []
    for at, piece in enumerate(word):
        bands.append((begin, end, word[at:] + word[:at]))
        begin, end = plus(0, begin, moves[piece]), plus(0, end, moves[piece])
    return bands


def goes_to_come_back(grid, word):
    """The least number of a word's goes whose moves come to 0 together; None where there is none."""
    moved = ORIGIN
    for at, piece in enumerate(word):
        moved = sum_of(moved, grid.moves[piece])
        if moved == ORIGIN:
            return at + 1
    return None
