"""Shares: stretches whose points come, by a go, just to their points."""

from cutexchange.bands import band_of
from cutexchange.changes import whole_of
from cutexchange.errors import NoChange, TooMany
from cutexchange.grids import Grid, cut_at, sum_of
from cutexchange.numbers import ZERO, is_number, less

MOST_GOES = 600


def is_share(change, thing):
    """Whether a thing, of whatever kind, is a share of a change."""
    if not isinstance(thing, list) or not all(is_stretch(change[0], each) for each in thing):
        return False
    if not lie_apart(change, thing):
        return False
    gone = {}
    for begin, end in thing:
        for low, high in gone_once(change, begin, end):
            gone[low] = high
    # Goes are one to one and leave longs as they are: what fills the stretches is all to which their points come.
    return all(end_from(begin, gone) == end for begin, end in thing)


def least_share(change, point):
    """The share of a point of a change of root 0: its band, and those to which it comes."""
    if change[0] != 0:
        raise NoChange("the change is not one of fractions")
    band = band_of(change, point)
    if band is None or len(band[2]) > MOST_GOES:
        raise TooMany("the band has more than 600 goes")
    begin, end, word = band
    grid = Grid(change, [begin, end])
    low, high = grid.place_of(begin), grid.place_of(end)
    places = []
    for piece in word:
        places.append((low, high))
        low, high = sum_of(low, grid.moves[piece]), sum_of(high, grid.moves[piece])
    # Places of the root 0 are sorted as whole numbers are, since all have one bottom and no root part.
    return [(grid.number_at(left), grid.number_at(right)) for left, right in put_together(sorted(places))]


def is_stretch(root, thing):
    """Whether a thing is a tuple of two numbers of the root, the first one less than the second."""
    if not isinstance(thing, tuple) or len(thing) != 2:
        return False
    begin, end = thing
    return is_number(root, begin) and is_number(root, end) and less(root, begin, end)


def lie_apart(change, stretches):
    """Whether stretches lie within the whole, each one's end below the begin of the next one."""
    root = change[0]
    if stretches and (less(root, stretches[0][0], ZERO) or less(root, whole_of(change), stretches[-1][1])):
        return False
    return all(less(root, one[1], other[0]) for one, other in zip(stretches, stretches[1:]))


def gone_once(change, begin, end):
    """The stretches (begin, end) to which the parts of a stretch come by a go."""
    # A grid for all stretches of a share at once could have a bottom of very many figures.
    grid = Grid(change, [begin, end])
    gone = []
    for piece, low, high in cut_at(grid.root, grid.edges, grid.place_of(begin), grid.place_of(end)):
        move = grid.moves[piece]
        gone.append((grid.number_at(sum_of(low, move)), grid.number_at(sum_of(high, move))))
    return gone


def end_from(begin, ends):
    """How far stretches, their ends told by their begins, lead without gaps from a begin on."""
    at = begin
    while at in ends:
        at = ends[at]
    return at


def put_together(stretches):
    """Rising stretches of places, those put together where one ends where the next begins."""
    together = []
    for begin, end in stretches:
        if together and together[-1][1] == begin:
            together[-1] = (together[-1][0], end)
        else:
            together.append((begin, end))
    return together
