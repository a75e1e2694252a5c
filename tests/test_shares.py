"""[4, 5, 7, 93] Shares, whose points come by a go just to their points; and the least share of a point."""

import unittest
from random import Random

from cutexchange.bands import all_bands, band_of
from cutexchange.changes import begins_of, came, goes, whole_of
from cutexchange.errors import NoChange, NoPoint, TooMany
from cutexchange.numbers import is_number, minus, plus, times
from cutexchange.parts import parted
from cutexchange.shares import is_share, least_share
from tests.helper import (
    FREE, GOLDEN, HALF, MIXED, ONE, OTHER_KINDS, ROOT, STILL, TWELVE, ZERO, cells_of, new_each_time, of_cells, refused,
    rising, scaled_change, some_cell_changes, some_changes, some_points, turns, worth,
)

TURN = of_cells([2, 1], [1, 0])


def runs_of(cells):
    """Stretches (begin, end) of cells, those side by side put together, as whole numbers."""
    runs = []
    for cell in sorted(cells):
        if runs and runs[-1][1] == cell:
            runs[-1][1] = cell + 1
        else:
            runs.append([cell, cell + 1])
    return runs


def stretches_of(cells):
    return [((begin, 0, 1), (end, 0, 1)) for begin, end in runs_of(cells)]


def way_of(change, cell):
    """All cells to which a cell comes."""
    cells, met = cells_of(change), [cell]
    while cells[met[-1]] != cell:
        met.append(cells[met[-1]])
    return met


def thirds(cells):
    """The middle thirds of cells."""
    return [((3 * cell + 1, 0, 3), (3 * cell + 2, 0, 3)) for cell in sorted(cells)]


class IsShare(unittest.TestCase):
    def test_none_and_the_whole(self):
        for change in [STILL, GOLDEN, FREE, MIXED, TWELVE, TURN] + some_changes(36, "shares"):
            whole = whole_of(change)
            self.assertIs(is_share(change, []), True)
            self.assertIs(is_share(change, [(ZERO, whole)]), True)
            half = times(change[0], whole, HALF)
            self.assertIs(is_share(change, [(ZERO, half), (half, whole)]), False)

    def test_what_stays(self):
        for thing in [[(ZERO, HALF)], [((1, 0, 3), HALF)], [(ZERO, (1, 0, 5)), ((1, 0, 4), HALF), ((7, 0, 9), ONE)]]:
            self.assertIs(is_share(STILL, thing), True)
            self.assertIs(is_share(of_cells([1, 1], [0, 1]), thing), True)
            self.assertIs(is_share(of_cells([1, 1], [1, 0]), thing), False)
        near = minus(0, ONE, (1, 0, 10 ** 39))
        self.assertIs(is_share(STILL, [((1, 0, 10 ** 39), near)]), True)

    def test_stretches_that_are_not_apart(self):
        third, two_thirds = (1, 0, 3), (2, 0, 3)
        for thing in [
            [(ZERO, two_thirds), (third, ONE)], [(ZERO, ONE), (third, two_thirds)], [(third, two_thirds), (ZERO, ONE)],
            [(ZERO, third), (third, ONE)], [(two_thirds, ONE), (ZERO, third)], [(ZERO, ONE), (ZERO, ONE)],
            [(ZERO, third), (HALF, two_thirds), (two_thirds, ONE)], [(ZERO, third), (ZERO, two_thirds)],
        ]:
            self.assertIs(is_share(STILL, thing), False, thing)

    def test_parts_are_shares(self):
        for change in [MIXED, turns(3, 3, 3, 3)] + some_changes(60, "parts"):
            begin, edges = ZERO, []
            for part in parted(change):
                end = plus(change[0], begin, whole_of(part))
                self.assertIs(is_share(change, [(begin, end)]), True)
                edges.append((begin, end))
                begin = end
            if len(edges) > 1:
                self.assertIs(is_share(change, edges), False)
                self.assertIs(is_share(change, [edges[0], (edges[1][0], whole_of(change))]), False)
            if len(edges) > 2:
                self.assertIs(is_share(change, [edges[0], edges[2]]), True)
                self.assertIs(is_share(change, [edges[2], edges[0]]), False)

    def test_mixed(self):
        rest = [((1, 1, 1), (5, 4, 4)), ((9, 4, 4), (1, 2, 1))]
        quarter, middle, three = (1, 4, 4), (1, 2, 2), (3, 4, 4)
        for thing, told in [
            ([(ZERO, ROOT)], True), ([(ZERO, ONE)], False), ([(ONE, ROOT)], False), (rest, True),
            ([(ZERO, ROOT), *rest], True), ([(ROOT, quarter), (middle, three)], True),
            ([(ROOT, quarter), (middle, (1, 1, 1))], False), ([(quarter, middle), (three, (1, 1, 1))], True),
            ([(quarter, middle), (three, (2, 1, 1))], True), ([(quarter, middle), (three, (2, 1, 1)), rest[1]], True),
            ([(quarter, (5, 4, 4))], False), ([(ROOT, middle)], False), ([(ROOT, (1, 1, 1))], True),
        ]:
            self.assertIs(is_share(MIXED, thing), told, thing)

    def test_golden_has_none_but_these(self):
        near = minus(2, ROOT, (1, 0, 10 ** 39))
        for stretch in [(ZERO, ONE), (ONE, ROOT), (ZERO, HALF), ((1, 0, 3), HALF), (ZERO, near)]:
            self.assertIs(is_share(GOLDEN, [stretch]), False)

    def test_cells(self):
        source = Random("cells")
        right, wrong = 0, 0
        for change in some_cell_changes(96, 30, "shares"):
            goes_to = cells_of(change)
            ways = {frozenset(way_of(change, cell)) for cell in range(30)}
            for way in ways:
                self.assertIs(is_share(change, stretches_of(way)), True)
                self.assertIs(is_share(change, thirds(way)), True)
                self.assertIs(is_share(change, stretches_of(way)[1:]), len(stretches_of(way)) == 1)
                self.assertIs(is_share(change, thirds(way)[:-1]), len(way) == 1)
            for _ in range(6):
                some = {cell for way in sorted(ways, key=sorted) if source.random() < 0.5 for cell in way}
                some ^= {source.randrange(30)} if source.random() < 0.5 else set()
                told = {goes_to[cell] for cell in some} == some
                self.assertIs(is_share(change, stretches_of(some)), told)
                self.assertIs(is_share(change, thirds(some)), told)
                right, wrong = right + told, wrong + (not told)
        self.assertTrue(right > 100 and wrong > 100)

    def test_numbers_with_a_root(self):
        for change in some_cell_changes(36, 24, "shares root"):
            other = scaled_change(change, 13)
            for cell in range(0, 24, 5):
                runs = runs_of(way_of(change, cell))
                scaled = [((0, begin, 1) if begin else ZERO, (0, end, 1)) for begin, end in runs]
                self.assertIs(is_share(other, scaled), True)
                self.assertIs(is_share(other, scaled[:-1]), len(scaled) == 1)

    def test_as_much_goes_out_as_comes_in(self):
        # The long of what is gone to is the same, but the points are others.
        self.assertIs(is_share(of_cells([1, 1], [1, 0]), [(ZERO, ONE)]), False)
        self.assertIs(is_share(of_cells([1, 1], [1, 0]), [(HALF, ONE)]), False)
        self.assertIs(is_share(of_cells([1, 1], [1, 0]), [(ZERO, HALF), (ONE, (3, 0, 2))]), True)
        self.assertIs(is_share(of_cells([1, 1], [1, 0]), [(ZERO, HALF), ((3, 0, 2), (2, 0, 1))]), False)
        self.assertIs(is_share(of_cells([1, 1], [1, 0]), [(HALF, (3, 0, 2))]), False)

    def test_many_stretches(self):
        change = turns(600)
        for part in (2, 3):
            even = [((cell, 0, 1), plus(0, (cell, 0, 1), (1, 0, part))) for cell in range(600)]
            self.assertIs(is_share(change, even), True)
            self.assertIs(is_share(change, even[:-1]), False)
            self.assertIs(is_share(change, even[:300] + even[301:]), False)
        pairs = [((cell, 0, 1), (cell + 1, 0, 1)) for cell in range(0, 600, 2)]
        self.assertIs(is_share(change, pairs), False)
        self.assertIs(is_share(of_cells([598, 2], [1, 0]), pairs), True)

    def otherwise(self, root, share):
        """Things of other forms than the share, none of which is one."""
        (begin, end), rest = share[0], share[1:]
        wrong = [tuple(share), {0: share}, {begin: end}, str(share), [share], (share,), share + [None], share + [()]]
        wrong += [share + share, share + share[-1:], [None] + share, share + [(end, begin)], [(end, begin)] + rest]
        wrong += [[list(stretch) for stretch in share], [begin, end]]
        firsts = [[begin, end], (begin,), (begin, end, end), (begin, begin), (list(begin), end), (begin, list(end))]
        firsts += [((2 * begin[0], 2 * begin[1], 2 * begin[2]), end), (begin, (2 * end[0], 2 * end[1], 2 * end[2]))]
        firsts += [(begin, (-end[0], -end[1], -end[2])), (begin, (end[0], False, end[2])), (begin, end[:2])]
        firsts += [(thing, end) for thing in (None, 0, True, "0", False, (0, 0))]
        firsts += [(begin, thing) for thing in (None, 1, True, "1", (1, 0), [1, 0, 1])]
        wrong += [[first] + rest for first in firsts]
        middle = times(root, plus(root, begin, end), HALF)
        wrong += [[(begin, middle), (middle, end)] + rest, [(begin, end), (middle, end)] + rest]
        wrong += [[(begin, middle), (begin, end)] + rest, [(begin, begin)] + share]
        return wrong + ([share[::-1]] if rest else [])

    def test_right_ones_put_otherwise(self):
        for change, share in self.right_ones():
            self.assertIs(is_share(change, share), True)
            for thing in self.otherwise(change[0], share):
                before = repr(thing)
                self.assertIs(is_share(change, thing), False, thing)
                self.assertEqual(repr(thing), before)

    def right_ones(self):
        cases = [(STILL, [(ZERO, ONE)]), (GOLDEN, [(ZERO, ROOT)]), (MIXED, [(ZERO, ROOT)]), (TURN, [(ZERO, (3, 0, 1))])]
        cases += [(MIXED, [(ROOT, (1, 4, 4)), ((1, 2, 2), (3, 4, 4))]), (turns(3, 4), thirds(range(3)))]
        return cases + [(change, stretches_of(way_of(change, 7))) for change in some_cell_changes(36, 20, "otherwise")]

    def by_points(self, change, share):
        """Whether points are in the share just where the points to which they go are: looked at wherever that turns."""
        root, whole = change[0], whole_of(change)
        edges = [number for stretch in share for number in stretch if number != whole]
        cuts = rising(root, [ZERO, *edges, *begins_of(change), *[came(change, edge) for edge in edges]]) + [whole]

        def is_in(point):
            return any(worth(root, begin) <= worth(root, point) < worth(root, end) for begin, end in share)

        points = cuts[:-1] + [times(root, plus(root, low, high), HALF) for low, high in zip(cuts, cuts[1:])]
        return all(is_in(point) == is_in(goes(change, point)) for point in points)

    def test_other_stretches(self):
        told = {True: 0, False: 0}
        for change, share in self.right_ones():
            root, near, whole = change[0], (1, 0, 10 ** 30), whole_of(change)
            (begin, end), rest = share[0], share[1:]
            middle = times(root, plus(root, begin, end), HALF)
            others = [rest, share[:-1]]
            others += [[(plus(root, begin, near), end)] + rest, [(begin, minus(root, end, near))] + rest]
            others += [[(begin, middle)] + rest, [(middle, end)] + rest, [(begin, plus(root, end, near))] + rest]
            others += [[(begin, middle), (plus(root, middle, near), end)] + rest, [(ZERO, end)] + rest]
            for other in others:
                if other and worth(root, other[-1][1]) > worth(root, whole):
                    self.assertIs(is_share(change, other), False)
                else:
                    self.assertIs(is_share(change, other), self.by_points(change, other), other)
                    told[is_share(change, other)] += 1
        self.assertTrue(told[True] > 20 and told[False] > 100, told)

    def test_of_another_root_and_beyond_the_whole(self):
        self.assertIs(is_share(STILL, [((-1, 1, 1), ONE)]), False)
        self.assertIs(is_share(STILL, [(ZERO, (-1, 1, 1))]), False)
        self.assertIs(is_share((2, (ONE,), (0,)), [(ZERO, (-1, 1, 1))]), True)
        self.assertIs(is_share(STILL, [((-1, 0, 1), ONE)]), False)
        self.assertIs(is_share(STILL, [(ZERO, (2, 0, 1))]), False)
        self.assertIs(is_share(STILL, [(ONE, (2, 0, 1))]), False)
        self.assertIs(is_share(STILL, [(ZERO, (10 ** 39 + 1, 0, 10 ** 39))]), False)
        self.assertIs(is_share(STILL, [((-2, 0, 1), (-1, 0, 1)), (ZERO, ONE)]), False)
        for end in ((2, 0, 1), (10 ** 39 + 1, 0, 10 ** 39)):
            self.assertIs(is_share(STILL, [(ZERO, HALF), ((3, 0, 4), end)]), False)
            self.assertIs(is_share(STILL, [(ZERO, HALF), ((3, 0, 4), (4, 0, 5)), (ONE, end)]), False)

    def test_of_whatever_kind(self):
        for change in (STILL, GOLDEN, MIXED, TWELVE):
            for thing in OTHER_KINDS + [0, 1, 10 ** 39, "[]"]:
                before = repr(thing)
                self.assertIs(is_share(change, thing), thing == [] and type(thing) is list)
                self.assertIs(is_share(change, [thing]), False)
                self.assertIs(is_share(change, [(thing, ONE)]), False)
                self.assertIs(is_share(change, [(ZERO, thing)]), False)
                self.assertIs(is_share(change, [(ZERO, HALF), thing]), False)
                self.assertEqual(repr(thing), before)
        self.assertIs(is_share(STILL, (ZERO, ONE)), False)
        self.assertIs(is_share(STILL, [(ZERO, ONE)] * 900), False)

    def test_forty_figures(self):
        many = 10 ** 40 - 1
        half = (many, many - 2, many - 4)
        change = (97, (half, (7, 0, many), half), (2, 1, 0))
        low, high = times(97, half, (1, 0, 3)), times(97, half, (2, 0, 3))
        far = plus(97, half, (7, 0, many))
        share = [(low, high), (plus(97, far, low), plus(97, far, high))]
        self.assertIs(is_share(change, share), True)
        self.assertIs(is_share(change, share[:1]), False)
        self.assertIs(is_share(change, share[:1] + [(half, far)] + share[1:]), True)


class LeastShare(unittest.TestCase):
    def test_known(self):
        self.assertEqual(least_share(STILL, HALF), [(ZERO, ONE)])
        self.assertEqual(least_share(TURN, HALF), [(ZERO, (3, 0, 1))])
        self.assertEqual(least_share(of_cells([1, 2, 1], [2, 1, 0]), ZERO), [(ZERO, ONE), ((3, 0, 1), (4, 0, 1))])
        self.assertEqual(least_share(of_cells([1, 2, 1], [2, 1, 0]), ONE), [(ONE, (3, 0, 1))])
        self.assertEqual(least_share(of_cells([1, 1], [0, 1]), (3, 0, 2)), [(ONE, (2, 0, 1))])

    def test_cells(self):
        sizes = set()
        for change in some_cell_changes(96, 40, "least"):
            for cell in range(40):
                for point in ((cell, 0, 1), (2 * cell + 1, 0, 2)):
                    begin, end, word = band_of(change, point)
                    way = {at for first in range(begin[0], end[0]) for at in way_of(change, first)}
                    told = least_share(change, point)
                    self.assertEqual(told, stretches_of(way))
                    self.assertIs(is_share(change, told), True)
                sizes.add(len(told))
        self.assertTrue({1, 2, 3, 5} <= sizes, sizes)

    def test_fractions(self):
        looked_at = 0
        for change in some_changes(240, "least"):
            if change[0] != 0:
                continue
            for point in some_points(change)[::7]:
                band = band_of(change, point)
                if band is None or len(band[2]) > 600:
                    refused(self, TooMany, least_share, change, point)
                    continue
                share = least_share(change, point)
                self.assertIs(is_share(change, share), True)
                self.assertTrue(any(worth(0, a) <= worth(0, point) < worth(0, b) for a, b in share))
                long = sum(worth(0, b) - worth(0, a) for a, b in share)
                self.assertEqual(long, len(band[2]) * (worth(0, band[1]) - worth(0, band[0])))
                self.assertEqual(least_share(change, goes(change, point)), share)
                looked_at += len(share) > 1
        self.assertGreater(looked_at, 20)

    def test_shares_of_all_bands_fill_the_whole(self):
        for change in some_cell_changes(24, 30, "fill"):
            shares = []
            for begin, _, _ in all_bands(change):
                share = least_share(change, begin)
                shares += [] if share in shares else [share]
            stretches = sorted(stretch for share in shares for stretch in share)
            self.assertEqual([ZERO] + [end for _, end in stretches], [begin for begin, _ in stretches] + [(30, 0, 1)])

    def test_600_goes_and_more(self):
        for change, begin, end in [
            (turns(600), 0, 600), (turns(5, 600), 5, 605), (turns(600, 7), 0, 600), (turns(599), 0, 599),
        ]:
            for cell in (begin, begin + 1, end - 2, end - 1):
                self.assertEqual(least_share(change, (2 * cell + 1, 0, 2)), [((begin, 0, 1), (end, 0, 1))])
        for change, cell in [
            (turns(601), 0), (turns(601), 600), (turns(5, 601), 5), (turns(2000), 0), (turns(2001), 0),
            (turns(7, 10 ** 39), 7), (of_cells([10 ** 39, 7], [1, 0]), 3),
        ]:
            refused(self, TooMany, least_share, change, (2 * cell + 1, 0, 2))
        self.assertEqual(least_share(turns(5, 601), (4, 0, 1)), [(ZERO, (5, 0, 1))])
        self.assertEqual(least_share(turns(5, 2001), (4, 0, 1)), [(ZERO, (5, 0, 1))])

    def test_many_stretches(self):
        # Cells two apart change among themselves, so none of them lie side by side.
        change = of_cells([598, 2], [1, 0])
        self.assertEqual(least_share(change, ZERO), [(ZERO, (600, 0, 1))])
        apart = of_cells([1, 1, 1, 1, 1, 1], [4, 1, 0, 3, 2, 5])
        self.assertEqual(least_share(apart, ZERO), [(ZERO, ONE), ((2, 0, 1), (3, 0, 1)), ((4, 0, 1), (5, 0, 1))])
        self.assertEqual(least_share(apart, (7, 0, 2)), [((3, 0, 1), (4, 0, 1))])

    def test_of_another_root(self):
        for change in (GOLDEN, MIXED, TWELVE, (2, (ONE,), (0,)), (97, (HALF, HALF), (1, 0))):
            refused(self, NoChange, least_share, change, ZERO)

    def test_no_point(self):
        for change in (STILL, TURN, turns(600), turns(601)):
            for thing in OTHER_KINDS + [
                whole_of(change), (-1, 0, 1), 0, (2, 0, 4), (0, 0, True), [0, 0, 1], (0, 1, 1), (-1, 0, 10 ** 39),
            ]:
                refused(self, NoPoint, least_share, change, thing)

    def test_which_comes_first(self):
        for thing in (None, (-1, 0, 1), whole_of(GOLDEN), (10 ** 39, 0, 1)):
            refused(self, NoChange, least_share, GOLDEN, thing)
        refused(self, NoChange, least_share, (2,) + turns(2001)[1:], ZERO)
        refused(self, NoChange, least_share, (2,) + turns(2001)[1:], True)
        refused(self, NoPoint, least_share, turns(2001), (2001, 0, 1))
        refused(self, NoPoint, least_share, turns(601), (601, 0, 1))


class Told(unittest.TestCase):
    def test_lists_are_new(self):
        for change in (STILL, TURN, turns(600), of_cells([1, 2, 1], [2, 1, 0])):
            new_each_time(self, least_share, change, HALF)

    def test_kinds_of_values(self):
        for change in some_cell_changes(24, 30, "kinds"):
            for stretch in least_share(change, ZERO):
                self.assertEqual((type(stretch), len(stretch)), (tuple, 2))
                self.assertTrue(all(is_number(0, number) for number in stretch))

    def test_what_is_told_may_be_changed_and_handed_in(self):
        share = least_share(turns(3, 4), ZERO)
        self.assertIs(is_share(turns(3, 4), share), True)
        share.append(((5, 0, 1), (6, 0, 1)))
        self.assertIs(is_share(turns(3, 4), share), False)
        share.pop()
        self.assertIs(is_share(turns(3, 4), share), True)
        self.assertEqual(share, [(ZERO, (3, 0, 1))])


if __name__ == "__main__":
    unittest.main()
