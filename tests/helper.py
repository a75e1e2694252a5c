"""What several test files need: samples, a second way of reckoning, and a look at refusals."""

from fractions import Fraction
from math import isqrt, lcm
from random import Random

from cutexchange import errors
from cutexchange.changes import begins_of
from cutexchange.numbers import minus, plus, times

ROOTS = [0] + [r for r in range(2, 100) if all(r % (k * k) for k in range(2, 10))]

NAMES = ["NoNumber", "NoChange", "NoPoint", "NoStretch", "NoWord", "NoStep", "Unlike", "NoText", "NoRow", "TooMany"]

ZERO = (0, 0, 1)
ONE = (1, 0, 1)
HALF = (1, 0, 2)
ROOT = (0, 1, 1)

STILL = (0, (ONE,), (0,))
THREE = (0, ((1, 0, 2), (1, 0, 3), (2, 0, 1)), (2, 0, 1))
GOLDEN = (2, (ONE, (-1, 1, 1)), (1, 0))
FREE = (2, ((1, 0, 1), (0, 1, 1), (3, -1, 1), (-1, 2, 5)), (3, 2, 1, 0))
TWELVE = (3, tuple((piece + 1, 1, 7) for piece in range(12)), (11, 3, 7, 0, 9, 4, 1, 10, 5, 8, 2, 6))
# The first two pieces turn and never come round; the next two change places; the last one stays.
MIXED = (2, (ONE, (-1, 1, 1), HALF, HALF, ROOT), (1, 0, 3, 2, 4))


def deep(depth, shell):
    """A thing of so many levels, each one made from the one within it."""
    thing = 1
    for _ in range(depth):
        thing = shell(thing)
    return thing


# Things of whatever kind that are no whole number, no number of a root, no point and no change.
OTHER_KINDS = [
    True, False, None, "", "1", "(1, 0, 1)", "x" * 2000, [], [1], [1, 0, 1], [[1, 0, 1]], {}, {0: 1}, {"a": (1, 0, 1)},
    {0: 1, 1: 0, 2: 1}, (), (1,), (1, 0), (1, 0, 1, 1), (None, None, None), ("1", "0", "1"), ((1, 0, 1),),
    ((1, 0, 1), (1, 0, 1), (1, 0, 1)), ([1], [0], [1]), deep(30, lambda x: [x]), deep(30, lambda x: (x,)),
    deep(30, lambda x: {"k": x}), deep(30, lambda x: (x, 0, 1)), [0] * 9000, (1,) * 9000,
]


def refused(case, kind, action, *handed):
    """Sees to it that the call is refused with this very class, and that nothing handed in is changed."""
    before = repr(handed)
    told = f"{action.__name__}{before[:200]}"
    with case.assertRaises(errors.StretchError, msg=told) as caught:
        action(*handed)
    error = caught.exception
    case.assertEqual([name for name in NAMES if isinstance(error, getattr(errors, name))], [kind.__name__], told)
    case.assertIsInstance(error, ValueError, told)
    case.assertEqual(repr(handed), before)


def tuple_of(fraction, rooted=Fraction(0)):
    """The number that is a fraction and another one times the root: its bottom is the least that both have."""
    bottom = lcm(fraction.denominator, rooted.denominator)
    return (int(fraction * bottom), int(rooted * bottom), bottom)


def parts_of(number):
    """A number as its fraction, and the one that stands with the root."""
    a, b, c = number
    return Fraction(a, c), Fraction(b, c)


def worth(root, number):
    """The worth as a fraction: the very one where there is no root part, else right to six hundred figures."""
    a, b, c = number
    scale = 10 ** 600
    rooted = isqrt(root * b * b * scale * scale)
    return (a + Fraction(rooted if b >= 0 else -rooted, scale)) / c


def some_numbers(root, many, figures, seed):
    """So many numbers of the root, of either sign, whole ones and 0 among them, the same ones each time."""
    source = Random(f"{root} {many} {figures} {seed}")
    numbers = [(0, 0, 1), (1, 0, 1), (-1, 0, 1)]
    while len(numbers) < many:
        top = 10 ** source.randint(1, figures) - 1
        rooted = Fraction(source.randint(-top, top), source.randint(1, top)) if root and source.random() < 0.7 else 0
        fraction = Fraction(source.randint(-top, top), source.choice([1, 1, 2, source.randint(1, top)]))
        numbers.append(tuple_of(fraction, Fraction(rooted)))
    return numbers


def some_changes(many, seed):
    """So many changes of many roots, of 1 to 12 pieces, the same ones each time."""
    source = Random(f"{many} {seed}")
    changes = []
    while len(changes) < many:
        root = source.choice([0, 2, 3, 5, 6, 97])
        pieces = len(changes) % 12 + 1
        above = [n for n in some_numbers(root, 60, 2, source.random()) if worth(root, n) > 0]
        order = list(range(pieces))
        source.shuffle(order)
        changes.append((root, tuple(source.choice(above) for _ in range(pieces)), tuple(order)))
    return changes


def rising(root, numbers):
    """The numbers without those that stand twice, the least first."""
    return sorted(set(numbers), key=lambda number: worth(root, number))


def some_points(change):
    """Points of each piece: its begin, two within it, and one just ahead of its end."""
    root, longs, order = change
    points = []
    for begin, long in zip(begins_of(change), longs):
        within = [times(root, long, part) for part in [(1, 0, 2), (5, 0, 7)]]
        fars = [(0, 0, 1), *within, minus(root, long, (1, 0, 10 ** 39))]
        points += [plus(root, begin, far) for far in fars]
    return points


def of_cells(lengths, order):
    """The change of root 0 whose pieces are so many cells, stretches of 1, long."""
    return (0, tuple((long, 0, 1) for long in lengths), tuple(order))


def turns(*sizes):
    """Turns side by side, each one of so many cells, whose points come to themselves by as many goes."""
    lengths, order = [], []
    for size in sizes:
        order += [len(lengths) + 1, len(lengths)] if size > 1 else [len(lengths)]
        lengths += [size - 1, 1] if size > 1 else [1]
    return of_cells(lengths, order)


def cells_of(change):
    """Where each cell of a change of whole longs of root 0 goes: a list."""
    root, longs, order = change
    goes_to = []
    for piece, (long, _, _) in enumerate(longs):
        begin = sum(longs[other][0] for other in order[:order.index(piece)])
        goes_to += range(begin, begin + long)
    return goes_to


def scaled_change(change, root):
    """A change of whole longs of root 0, each one times another root."""
    return (root, tuple((0, long[0], 1) for long in change[1]), change[2])


def in_other_orders(change):
    """Changes with the longs of a change, some of them in another row, that come to lie in other orders."""
    root, longs, order = change
    orders = [order[::-1], order[1:] + order[:1], tuple(range(len(longs)))[::-1]]
    return [(root, longs, other) for other in orders] + [(root, longs[::-1], order)]


def change_of_cells(goes_to):
    """The slim change by which cells go so."""
    firsts = [at for at in range(len(goes_to)) if at == 0 or goes_to[at] != goes_to[at - 1] + 1]
    ends = firsts[1:] + [len(goes_to)]
    laid = sorted(range(len(firsts)), key=lambda piece: goes_to[firsts[piece]])
    return of_cells([end - first for first, end in zip(firsts, ends)], laid)


def some_cell_changes(many, cells, seed):
    """So many changes of whole longs of root 0, of 1 to 12 pieces, so many cells in all, the same ones each time."""
    source = Random(f"{many} {cells} {seed}")
    changes = []
    while len(changes) < many:
        pieces = len(changes) % 12 + 1
        edges = [0] + sorted(source.sample(range(1, cells), pieces - 1)) + [cells]
        changes.append(of_cells([b - a for a, b in zip(edges, edges[1:])], source.sample(range(pieces), pieces)))
    return changes


def new_each_time(case, action, *handed):
    """Sees to it that a told list is new and the asker's own, and that the same asked again is answered alike."""
    before = repr(handed)
    first = action(*handed)
    kept = list(first)
    case.assertIs(type(first), list)
    case.assertIsNot(action(*handed), first)
    first.clear()
    first.append("else")
    case.assertEqual(action(*handed), kept)
    case.assertEqual(repr(handed), before)
