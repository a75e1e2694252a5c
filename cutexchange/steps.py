"""Steps that lead a change to a lesser one, and the way back from there."""

from cutexchange.changes import numbered_anew
from cutexchange.errors import NoStep
from cutexchange.numbers import is_whole, less, minus, must_be_from_to, plus

MOST_STEPS = 200


def is_even(change):
    """Whether the last piece, and the last one behind the go, are one piece or as long as one another."""
    return sort_of_step(change) is None


def step_of(change):
    """A change's step: its sort, and the lesser change."""
    sort = sort_of_step(change)
    if sort is None:
        raise NoStep("an even change has no step")
    root, longs, order = change
    pieces = list(range(len(longs)))
    last, other = pieces[-1], order[-1]
    if sort == 0:
        shortened = with_long(longs, last, minus(root, longs[last], longs[other]))
        return (sort, numbered_anew(root, shortened, pieces, put_behind_piece(order, other, last)))
    shortened = with_long(longs, other, minus(root, longs[other], longs[last]))
    return (sort, numbered_anew(root, shortened, put_behind_piece(pieces, last, other), order))


def steps_done(change, most):
    """The sorts of a change's steps, at most so many and until an even change comes; and the lesser change."""
    must_be_from_to(most, 0, MOST_STEPS)
    sorts = []
    while len(sorts) < most and not is_even(change):
        sort, change = step_of(change)
        sorts.append(sort)
    return (sorts, change)


def unstepped(change, sort):
    """The change from which a step of a sort leads to a change."""
    if not is_whole(sort) or sort not in (0, 1):
        raise NoStep("a step is of sort 0 or 1")
    root, longs, order = change
    pieces = list(range(len(longs)))
    last, laid_last = pieces[-1], order[-1]
    if last == laid_last:
        raise NoStep("no step leads to a change whose last piece is the last one behind the go, too")
    if sort == 0:
        other = order[order.index(last) + 1]
        grown = with_long(longs, last, plus(root, longs[last], longs[other]))
        return numbered_anew(root, grown, pieces, put_behind_piece(order, other, laid_last))
    other = laid_last + 1
    grown = with_long(longs, laid_last, plus(root, longs[laid_last], longs[other]))
    return numbered_anew(root, grown, put_behind_piece(pieces, other, last), order)


def sort_of_step(change):
    """0 where the last piece is longer than the last one behind the go, 1 where it is shorter, None where even."""
    root, longs, order = change
    last, laid_last = longs[-1], longs[order[-1]]
    if last == laid_last:
        return None
    return 0 if less(root, laid_last, last) else 1


def with_long(longs, piece, long):
    """The longs with another one for a piece."""
    return longs[:piece] + (long,) + longs[piece + 1:]


def put_behind_piece(row, piece, other):
    """A row of pieces in which a piece is brought to stand just behind another one; it stays where they are one."""
    if piece == other:
        return list(row)
    rest = [each for each in row if each != piece]
    at = rest.index(other) + 1
    return rest[:at] + [piece] + rest[at:]
