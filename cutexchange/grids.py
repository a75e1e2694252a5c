"""A change on a grid: all its numbers over one bottom, so that walks add and compare whole numbers alone.

A place is a pair (a, b), worth a and b times the root's square root together, by the grid's bottom.
"""

from cutexchange.numbers import in_lowest_terms, is_below_zero, least_that_both_divide

ORIGIN = (0, 0)


class Grid:
    """The pieces of a change, and where they go, as places; the further numbers have places, too."""

    def __init__(self, change, numbers):
        root, longs, order = change
        self.root = root
        self.bottom = bottom_of_all([*longs, *numbers])
        self.edges = edges_beside([self.place_of(long) for long in longs])
        self.moves = moves_between(self.edges, order)

    def place_of(self, number):
        """The place of a number whose bottom divides the grid's."""
        a, b, c = number
        scale = self.bottom // c
        return (a * scale, b * scale)

    def number_at(self, place):
        """The number that a place is worth."""
        a, b = place
        return in_lowest_terms(a, b, self.bottom)

    def piece_of(self, place):
        """The piece that has a place."""
        return stretch_with(self.root, self.edges, place)

    def go(self, place):
        """The place to which a place goes."""
        return sum_of(place, self.moves[self.piece_of(place)])


def bottom_of_all(numbers):
    """The least whole number that the bottoms of all numbers divide."""
    bottom = 1
    for a, b, c in numbers:
        bottom = least_that_both_divide(bottom, c)
    return bottom


def edges_beside(longs):
    """Where stretches of these longs begin, side by side from 0 on, and where the last one ends."""
    edges = [ORIGIN]
    for long in longs:
        edges.append(sum_of(edges[-1], long))
    return edges


def moves_between(edges, order):
    """How far each piece is moved, by its number, where the pieces between the edges come to lie in the order."""
    laid = edges_beside([difference_of(edges[piece + 1], edges[piece]) for piece in order])
    moves = [ORIGIN for piece in order]
    for at, piece in enumerate(order):
        moves[piece] = difference_of(laid[at], edges[piece])
    return moves


def sum_of(one, other):
    """Two places together."""
    return (one[0] + other[0], one[1] + other[1])


def difference_of(one, other):
    """The first place less the second."""
    return (one[0] - other[0], one[1] - other[1])


def is_less(root, one, other):
    """Whether the first place is less than the second."""
    return is_below_zero(root, one[0] - other[0], one[1] - other[1])


def stretch_with(root, edges, place):
    """The number of the stretch between two edges that has a place; of edges in one place the last one counts."""
    low, high = 0, len(edges) - 1
    while high - low > 1:
        middle = (low + high) // 2
        if is_less(root, place, edges[middle]):
            high = middle
        else:
            low = middle
    return low


def cut_at(root, edges, begin, end):
    """A stretch cut at the edges within it, from the left on: tuples (stretch between two edges, begin, end)."""
    parts = []
    at = stretch_with(root, edges, begin)
    while is_less(root, edges[at + 1], end):
        parts.append((at, begin, edges[at + 1]))
        begin = edges[at + 1]
        at += 1
    parts.append((at, begin, end))
    return parts


def change_of_parts(grid, parts, begin):
    """The change of parts (long, begin behind the go), from the left on; behind the go they lie from begin on."""
    found = {laid: at for at, (long, laid) in enumerate(parts)}
    order = []
    # The parts leave no gaps, so where one of them ends, the next one begins: nothing needs to be sorted.
    while len(order) < len(parts):
        at = found[begin]
        order.append(at)
        begin = sum_of(begin, parts[at][0])
    longs = tuple([grid.number_at(long) for long, laid in parts])
    return (grid.root, longs, tuple(order))
