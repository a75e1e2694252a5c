"""Changes (root, longs, order): pieces side by side from 0 on, and where a go brings them."""

from cutexchange.errors import NoPoint
from cutexchange.numbers import ZERO, is_number, is_root, is_whole, less, minus, plus

MOST_PIECES = 12


def is_change(thing):
    """Whether a thing, of whatever kind, is a change."""
    if not isinstance(thing, tuple) or len(thing) != 3:
        return False
    root, longs, order = thing
    return is_root(root) and are_longs(root, longs) and is_order(order, len(longs))


def are_longs(root, thing):
    """Whether a thing is a tuple of 1 to 12 numbers of the root above 0."""
    if not isinstance(thing, tuple) or not 1 <= len(thing) <= MOST_PIECES:
        return False
    return all(is_number(root, part) and less(root, ZERO, part) for part in thing)


def is_order(thing, many):
    """Whether a thing is a tuple with each of so many pieces' numbers once."""
    if not isinstance(thing, tuple) or not all(is_whole(part) for part in thing):
        return False
    return sorted(thing) == list(range(many))


def whole_of(change):
    """All longs together."""
    root, longs, order = change
    return edges_of(root, longs)[-1]


def begins_of(change):
    """The begins of the pieces, by their numbers."""
    root, longs, order = change
    return tuple(edges_of(root, longs)[:-1])


def moves_of(change):
    """The moves of the pieces, by their numbers."""
    root, longs, order = change
    laid = dict(laid_of(change))
    return tuple([minus(root, laid[piece], begin) for piece, begin in enumerate(begins_of(change))])


def laid_of(change):
    """The pieces as they lie behind a go, from the left on: tuples (piece, begin)."""
    root, longs, order = change
    return list(zip(order, laid_edges_of(change)[:-1]))


def piece_at(change, point):
    """The piece in which a point lies."""
    root, longs, order = change
    return place_between(root, edges_of(root, longs), point)


def goes(change, point):
    """The point to which a point goes."""
    root, longs, order = change
    piece = piece_at(change, point)
    return plus(root, point, moves_of(change)[piece])


def came(change, point):
    """The point that goes to a point."""
    root, longs, order = change
    piece = order[place_between(root, laid_edges_of(change), point)]
    return minus(root, point, moves_of(change)[piece])


def must_be_point(change, thing):
    """Refuses what is no point of a change."""
    piece_at(change, thing)


def are_pieces(change, thing):
    """Whether a thing, of whatever kind, is a tuple of one or more pieces' numbers."""
    if not isinstance(thing, tuple) or len(thing) == 0:
        return False
    return all(is_whole(part) and 0 <= part < len(change[1]) for part in thing)


def numbered_anew(root, longs, ahead, laid):
    """The change of pieces in the row ahead of a go and the row laid behind it, numbered from the left on."""
    numbers = {piece: at for at, piece in enumerate(ahead)}
    return (root, tuple([longs[piece] for piece in ahead]), tuple([numbers[piece] for piece in laid]))


def edges_of(root, longs):
    """Where stretches of these longs begin, side by side from 0 on, and where the last one ends."""
    edges = [ZERO]
    for long in longs:
        edges.append(plus(root, edges[-1], long))
    return edges


def laid_edges_of(change):
    """The edges of the pieces as they lie behind a go."""
    root, longs, order = change
    return edges_of(root, [longs[piece] for piece in order])


def place_between(root, edges, point):
    """How many stretches lie to the left of the one that has the point; refused is what none has."""
    if not is_number(root, point) or less(root, point, ZERO):
        raise NoPoint("a point is a number of the root from 0 on")
    for place, end in enumerate(edges[1:]):
        if less(root, point, end):
            return place
    raise NoPoint("a point is below the whole")
