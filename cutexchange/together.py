"""Changes put behind one another, undone, and done so many times; and which of them are the same."""

from cutexchange.changes import MOST_PIECES, numbered_anew, whole_of
from cutexchange.errors import TooMany, Unlike
from cutexchange.grids import ORIGIN, Grid, change_of_parts, cut_at, difference_of, sum_of
from cutexchange.numbers import must_be_from_to, plus

MOST_TIMES = 50


def slim(change):
    """The slim change that goes as a change does: what lies side by side ahead of the go and behind it is one piece."""
    root, longs, order = change
    left_of = dict(zip(order[1:], order[:-1]))
    joined = []
    numbers = []
    for piece, long in enumerate(longs):
        if left_of.get(piece) == piece - 1:
            joined[-1] = plus(root, joined[-1], long)
        else:
            joined.append(long)
        numbers.append(len(joined) - 1)
    # A joined piece stands in the order where the first one of its pieces does.
    firsts = [piece for piece in order if left_of.get(piece) != piece - 1]
    return (root, tuple(joined), tuple([numbers[piece] for piece in firsts]))


def behind(one, other):
    """The slim change by which points go as by the first and then by the second."""
    if one[0] != other[0] or whole_of(one) != whole_of(other):
        raise Unlike("the changes do not have one root and one whole")
    return put_behind(one, other)


def undone(change):
    """The change by which each point goes back."""
    root, longs, order = change
    return numbered_anew(root, longs, order, list(range(len(order))))


def often(change, times):
    """The slim change by which points go as by so many goes of a change."""
    must_be_from_to(times, 0, MOST_TIMES)
    done = (change[0], (whole_of(change),), (0,))
    for each in range(times):
        done = put_behind(done, change)
    return done


def same(one, other):
    """Whether two changes have one root and one whole, and each point goes to one point by both."""
    # The pieces of a slim change begin just where moves differ, so those that go alike are one tuple.
    return slim(one) == slim(other)


def is_idle(change):
    """Whether each point stays."""
    return len(slim(change)[1]) == 1


def put_behind(one, other):
    """As behind tells, of two changes of one root and one whole."""
    grid = Grid(one, other[1])
    # Both grids have one bottom, since both reckon with the longs of both changes.
    next_grid = Grid(other, one[1])
    parts = []
    for piece, move in enumerate(grid.moves):
        begin, end = sum_of(grid.edges[piece], move), sum_of(grid.edges[piece + 1], move)
        for met, low, high in cut_at(grid.root, next_grid.edges, begin, end):
            parts.append((difference_of(high, low), sum_of(low, next_grid.moves[met])))
    both = slim(change_of_parts(grid, parts, ORIGIN))
    if len(both[1]) > MOST_PIECES:
        raise TooMany("the change has more than twelve pieces")
    return both
