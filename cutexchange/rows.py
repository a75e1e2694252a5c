"""Rows of steps: for each piece of a lesser change the pieces of the old one that its points pass."""

from cutexchange.changes import are_pieces
from cutexchange.errors import TooMany
from cutexchange.grids import ORIGIN, Grid, is_less, sum_of
from cutexchange.numbers import must_be_from_to
from cutexchange.steps import MOST_STEPS, is_even, step_of

MOST_LONG = 500


def rows_of(change, most):
    """The rows of a change's steps, at most so many and until an even change comes."""
    must_be_from_to(most, 0, MOST_STEPS)
    rows = [(piece,) for piece in range(len(change[1]))]
    for each in range(most):
        if is_even(change):
            break
        sort, lesser = step_of(change)
        rows = rows_behind_step(rows, change[2][-1], sort)
        change = lesser
    return tuple(rows)


def are_rows(change, lesser, thing):
    """Whether a thing, of whatever kind, is rows from a change to another one."""
    if change[0] != lesser[0] or not is_table(change, lesser, thing):
        return False
    # Both grids have one bottom, since both reckon with the longs of both changes.
    grid, lesser_grid = Grid(change, lesser[1]), Grid(lesser, change[1])
    if long_of_all(lesser_grid, thing) != grid.edges[-1]:
        return False
    return all(is_led(grid, lesser_grid, piece, row) for piece, row in enumerate(thing))


def rows_behind_step(rows, laid_last, sort):
    """The rows by one step more, of a sort, from a change whose last piece behind the go is told."""
    # By either sort the points of the shorter piece pass first the last piece behind the go, then the last piece.
    joined = rows[laid_last] + rows[-1]
    if len(joined) > MOST_LONG:
        raise TooMany("a row has more than 500 pieces")
    if sort == 0:
        return rows[:laid_last] + [joined] + rows[laid_last + 1:]
    return rows[:laid_last + 1] + [joined] + rows[laid_last + 1:-1]


def is_table(change, lesser, thing):
    """Whether a thing is a tuple with, for each piece of the lesser change, a tuple of pieces of the other."""
    if not isinstance(thing, tuple) or len(thing) != len(lesser[1]):
        return False
    return all(are_pieces(change, row) for row in thing)


def long_of_all(lesser_grid, rows):
    """All the rows' pieces together, each as long as the piece whose row it is."""
    together = ORIGIN
    for piece, row in enumerate(rows):
        begin, end = lesser_grid.edges[piece], lesser_grid.edges[piece + 1]
        together = sum_of(together, (len(row) * (end[0] - begin[0]), len(row) * (end[1] - begin[1])))
    return together


def is_led(grid, lesser_grid, piece, row):
    """Whether a piece of the lesser change walks whole through its row and is, for the first time, back as it leads."""
    root, whole = grid.root, lesser_grid.edges[-1]
    begin, end = lesser_grid.edges[piece], lesser_grid.edges[piece + 1]
    for at, passed in enumerate(row):
        if at > 0 and is_less(root, begin, whole):
            return False
        if is_less(root, begin, grid.edges[passed]) or is_less(root, grid.edges[passed + 1], end):
            return False
        begin, end = sum_of(begin, grid.moves[passed]), sum_of(end, grid.moves[passed])
    return begin == sum_of(lesser_grid.edges[piece], lesser_grid.moves[piece])
