"""Walks of points: where they come by so many goes, which pieces they meet, and when they are back."""

from cutexchange.changes import must_be_point
from cutexchange.grids import Grid, sum_of
from cutexchange.numbers import must_be_from_to
from cutexchange.together import undone

MOST_GOES = 2000


def after(change, point, often):
    """Where a point comes by so many goes; below 0 by so many goes back."""
    must_be_point(change, point)
    must_be_from_to(often, -MOST_GOES, MOST_GOES)
    grid = Grid(change if often >= 0 else undone(change), [point])
    place = grid.place_of(point)
    for each in range(abs(often)):
        place = grid.go(place)
    return grid.number_at(place)


def word_of(change, point, often):
    """The pieces in which a point lies ahead of each of so many goes."""
    must_be_point(change, point)
    must_be_from_to(often, 0, MOST_GOES)
    grid = Grid(change, [point])
    place = grid.place_of(point)
    word = []
    for each in range(often):
        piece = grid.piece_of(place)
        word.append(piece)
        place = sum_of(place, grid.moves[piece])
    return tuple(word)


def comes_back(change, point, most):
    """The least number of goes, from 1 to most, by which a point comes to itself; None where none does."""
    must_be_point(change, point)
    must_be_from_to(most, 1, MOST_GOES)
    grid = Grid(change, [point])
    begin = grid.place_of(point)
    place = begin
    for gone in range(1, most + 1):
        place = grid.go(place)
        if place == begin:
            return gone
    return None
