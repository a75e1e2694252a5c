"""Words of a change: the pieces that points meet by so many goes, and the stretches of points that have them.

A strand is a tuple (word, first, begin, end): points that have a word by its goes, a stretch from the place first on,
and the places between which they lie behind these goes.
"""

from cutexchange.changes import are_pieces
from cutexchange.errors import NoWord
from cutexchange.grids import ORIGIN, Grid, cut_at, difference_of, is_less, sum_of
from cutexchange.numbers import must_be_from_to

MOST_GOES = 40


def all_words(change, often):
    """All words of points by so many goes: tuples (word, begin, end), rising by their begins."""
    must_be_from_to(often, 1, MOST_GOES)
    grid = Grid(change, [])
    told = []
    for strand in strands_by(grid, often):
        begin, end = stretch_told(grid, strand)
        told.append((strand[0], begin, end))
    return told


def many_words(change, often):
    """How many words of points by so many goes there are."""
    must_be_from_to(often, 1, MOST_GOES)
    return len(strands_by(Grid(change, []), often))


def stretch_of(change, word):
    """The stretch (begin, end) of the points that have a word; None where there are none."""
    must_be_word(change, word)
    return stretch_with_word(Grid(change, []), word)


def next_pieces(change, word):
    """The rising list of the pieces that come behind a word."""
    must_be_word(change, word)
    grid = Grid(change, [])
    strand = strand_of(grid, word)
    if strand is None:
        return []
    met, first, begin, end = strand
    return [piece for piece, low, high in cut_at(grid.root, grid.edges, begin, end)]


def must_be_word(change, thing):
    """Refuses what is no tuple of one to 40 pieces' numbers."""
    if not are_pieces(change, thing) or len(thing) > MOST_GOES:
        raise NoWord("a word is a tuple of one to 40 pieces' numbers")


def strands_by(grid, often):
    """The strands of all points by so many goes, rising by where they begin at first."""
    strands = [((), ORIGIN, ORIGIN, grid.edges[-1])]
    for each in range(often):
        strands = gone_once(grid, strands)
    return strands


def gone_once(grid, strands):
    """The strands by one go more, each one cut where pieces begin."""
    gone = []
    for strand in strands:
        for piece, (word, first, begin, end) in cut_strand(grid.root, grid.edges, strand):
            move = grid.moves[piece]
            gone.append((word + (piece,), first, sum_of(begin, move), sum_of(end, move)))
    return gone


def cut_strand(root, edges, strand):
    """A strand cut at the edges within it, where it lies now: tuples (stretch between two edges, strand)."""
    word, first, begin, end = strand
    parts = []
    for at, low, high in cut_at(root, edges, begin, end):
        parts.append((at, (word, sum_of(first, difference_of(low, begin)), low, high)))
    return parts


def strand_of(grid, word):
    """The strand of all points that have a word; None where there are none."""
    begin, end, moved = ORIGIN, grid.edges[-1], ORIGIN
    for piece in word:
        begin = grid.edges[piece] if is_less(grid.root, begin, grid.edges[piece]) else begin
        end = grid.edges[piece + 1] if is_less(grid.root, grid.edges[piece + 1], end) else end
        if not is_less(grid.root, begin, end):
            return None
        move = grid.moves[piece]
        begin, end, moved = sum_of(begin, move), sum_of(end, move), sum_of(moved, move)
    return (word, difference_of(begin, moved), begin, end)


def stretch_with_word(grid, word):
    """The stretch (begin, end) of all points that have a word, however long it is; None where there are none."""
    strand = strand_of(grid, word)
    return None if strand is None else stretch_told(grid, strand)


def stretch_told(grid, strand):
    """The stretch (begin, end), as numbers, of the points of a strand ahead of all goes."""
    word, first, begin, end = strand
    return (grid.number_at(first), grid.number_at(sum_of(first, difference_of(end, begin))))
