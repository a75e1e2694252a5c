"""Meetings: cuts that come, by so many goes, to where there is a cut."""

from cutexchange.grids import Grid
from cutexchange.numbers import must_be_from_to

MOST_GOES = 2000


def meetings_of(change, most):
    """All meetings by at most so many goes: tuples (piece, goes, other), rising."""
    must_be_from_to(most, 1, MOST_GOES)
    grid = Grid(change, [])
    pieces = {grid.edges[piece]: piece for piece in range(1, len(change[1]))}
    meetings = []
    for cut, piece in pieces.items():
        place = cut
        for gone in range(1, most + 1):
            place = grid.go(place)
            if place in pieces:
                meetings.append((piece, gone, pieces[place]))
                break
    return meetings
