"""The drift of a change, which stays through returns and steps; turns, and changes crossed."""

from cutexchange.changes import moves_of
from cutexchange.errors import NoNumber
from cutexchange.numbers import ZERO, is_number, less, minus, number_of, plus
from cutexchange.together import behind, undone


def drift_of(change):
    """The drift of a change, a number of the root 0."""
    drift = ZERO
    for (a, b, c), (d, e, f) in zip(change[1], moves_of(change)):
        drift = plus(0, drift, number_of(0, a * e - b * d, 0, c * f))
    return drift


def turn_by(root, whole, by):
    """The slim change of a whole by which points go so far to the right, and from its end on at its begin again."""
    if not is_number(root, whole) or not is_number(root, by):
        raise NoNumber("a turn is told by two numbers of the root")
    if less(root, by, ZERO) or not less(root, by, whole):
        raise NoNumber("a turn is by a number from 0 on and less than the whole")
    if by == ZERO:
        return (root, (whole,), (0,))
    return (root, (minus(root, whole, by), by), (1, 0))


def crossed(one, other):
    """The slim change by which points go as by the one, the other, the one undone and the other undone."""
    both = behind(one, other)
    return behind(behind(both, undone(one)), undone(other))
