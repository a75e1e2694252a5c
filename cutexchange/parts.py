"""Where a change parts into changes that never mix; and changes laid side by side."""

from cutexchange.changes import MOST_PIECES, is_change
from cutexchange.errors import NoChange, TooMany, Unlike

MOST_CHANGES = 12


def parts_at(change):
    """The rising list of the pieces at whose begins a change parts."""
    order = change[2]
    # As many pieces as lie below a piece are those below it where none of them has a greater number.
    return [piece for piece in range(1, len(order)) if max(order[:piece]) < piece]


def parted(change):
    """The changes into which a change parts, from the left on, each laid from 0 on."""
    firsts = [0] + parts_at(change)
    ends = firsts[1:] + [len(change[1])]
    return [part_between(change, first, end) for first, end in zip(firsts, ends)]


def side_by_side(changes):
    """The change of a list of changes of one root, laid side by side from the left on."""
    must_be_changes(changes)
    if any(change[0] != changes[0][0] for change in changes):
        raise Unlike("the changes do not have one root")
    longs, order = (), ()
    for root, next_longs, next_order in changes:
        order += tuple([len(longs) + piece for piece in next_order])
        longs += next_longs
    if len(longs) > MOST_PIECES:
        raise TooMany("the change has more than twelve pieces")
    return (changes[0][0], longs, order)


def part_between(change, first, end):
    """The change of the pieces from the first one on up to the end, where they stay among themselves."""
    root, longs, order = change
    return (root, longs[first:end], tuple([piece - first for piece in order[first:end]]))


def must_be_changes(thing):
    """Refuses what is no list of one to twelve changes."""
    if not isinstance(thing, list) or not 1 <= len(thing) <= MOST_CHANGES:
        raise NoChange("a list of one to twelve changes is due")
    if not all(is_change(each) for each in thing):
        raise NoChange("what stands in the list is no change")
