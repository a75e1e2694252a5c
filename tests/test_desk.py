"""[4, 5, 112] A desk that keeps a change and a point, is told rows, and answers each with a text."""

import inspect
import unittest
from random import Random

from cutexchange.changes import goes, is_change, piece_at, whole_of
from cutexchange.desk import Desk
from cutexchange.errors import NoNumber, NoPoint, NoRow, NoStep, StretchError
from cutexchange.numbers import less, times
from cutexchange.parts import parts_at
from cutexchange.steps import is_even, step_of
from cutexchange.texts import change_text, number_read, number_text
from cutexchange.walks import after, comes_back, word_of
from cutexchange.words import many_words
from tests.helper import (
    FREE, GOLDEN, HALF, MIXED, ONE, OTHER_KINDS, ROOT, STILL, TWELVE, ZERO, of_cells, refused, some_changes,
    some_points, turns,
)
from tests.test_texts import NO_CHANGES, NO_NUMBERS

ASKS = ("show", "here", "word 5", "words 5", "period 2000", "step", "parts")
WITH_NUMBER = ("go", "back", "word", "words", "period")
ALONE = ("show", "here", "step", "parts", "undo")


def state(desk):
    """All that a desk tells of what it keeps."""
    return desk.say("show"), desk.say("here")


def desk_with(change, point=ZERO):
    desk = Desk()
    desk.say(f"change {change_text(change)}")
    desk.say(f"point {number_text(point)}")
    return desk


class First(unittest.TestCase):
    def test_what_it_keeps_at_first(self):
        desk = Desk()
        self.assertEqual(desk.say("show"), "0 : 1 : 0")
        self.assertEqual(desk.say("here"), "0 0")
        self.assertEqual(desk.say("word 3"), "0 0 0")
        self.assertEqual(desk.say("words 40"), "1")
        self.assertEqual(desk.say("period 1"), "1")
        self.assertEqual(desk.say("parts"), "none")
        refused(self, NoStep, desk.say, "step")
        refused(self, NoRow, desk.say, "undo")

    def test_the_interface(self):
        self.assertEqual(list(inspect.signature(Desk).parameters), [])
        self.assertEqual(list(inspect.signature(Desk.say).parameters)[1:], ["row"])
        self.assertIn("say", vars(Desk))


class Deeds(unittest.TestCase):
    def test_change(self):
        desk = Desk()
        self.assertEqual(desk.say("change 2 : 1 -1+1r : 1 0"), "ok")
        self.assertEqual(state(desk), ("2 : 1 -1+1r : 1 0", "0 0"))
        for change in some_changes(36, "desk") + [TWELVE, FREE]:
            self.assertEqual(desk.say(f"change {change_text(change)}"), "ok")
            self.assertEqual(state(desk), (change_text(change), "0 0"))

    def test_the_point_is_0_behind_a_change(self):
        desk = desk_with(GOLDEN, ONE)
        self.assertEqual(desk.say("here"), "1 1")
        self.assertEqual(desk.say("change 2 : 1 -1+1r : 1 0"), "ok")
        self.assertEqual(desk.say("here"), "0 0")

    def test_point(self):
        desk = desk_with(GOLDEN)
        self.assertEqual(desk.say("point 1/2"), "1/2")
        self.assertEqual(desk.say("here"), "1/2 0")
        self.assertEqual(desk.say("point -1+1r"), "-1+1r")
        self.assertEqual(desk.say("point (0+2r)/3"), "(0+2r)/3")
        self.assertEqual(desk.say("point 7/5"), "7/5")
        self.assertEqual(desk.say("here"), "7/5 1")
        self.assertEqual(desk.say("show"), "2 : 1 -1+1r : 1 0")
        for change in some_changes(36, "points"):
            desk.say(f"change {change_text(change)}")
            for point in some_points(change):
                self.assertEqual(desk.say(f"point {number_text(point)}"), number_text(point))
                self.assertEqual(desk.say("here"), f"{number_text(point)} {piece_at(change, point)}")

    def test_points_that_are_none(self):
        desk = desk_with(GOLDEN, HALF)
        for text in ["0+1r", "-1", "-1/2", "2", "0-1r", "17/12", "1" + "0" * 39, "1+1r"]:
            refused(self, NoPoint, desk.say, f"point {text}")
            self.assertEqual(state(desk), ("2 : 1 -1+1r : 1 0", "1/2 0"))
        desk = Desk()
        for text in ["1", "2", "-1/1000", "0+1r", "-1+1r", "0-1r", "(0+1r)/2"]:
            refused(self, NoPoint, desk.say, f"point {text}")
        refused(self, NoRow, desk.say, "undo")

    def test_go_and_back(self):
        desk = desk_with(GOLDEN)
        self.assertEqual(desk.say("go 1"), "-1+1r")
        self.assertEqual(desk.say("go 2"), "-3+3r")
        self.assertEqual(desk.say("go 0"), "-3+3r")
        self.assertEqual(desk.say("here"), "-3+3r 1")
        self.assertEqual(desk.say("back 3"), "0")
        self.assertEqual(desk.say("back 0"), "0")
        self.assertEqual(desk.say("back 1"), "1")
        for change in some_changes(24, "go"):
            for point in some_points(change)[::5]:
                for many in (0, 1, 2, 17, 2000):
                    desk = desk_with(change, point)
                    self.assertEqual(desk.say(f"go {many}"), number_text(after(change, point, many)))
                    self.assertEqual(desk.say(f"back {many}"), number_text(point))
                    self.assertEqual(desk.say(f"back {many}"), number_text(after(change, point, -many)))
                    self.assertEqual(desk.say("show"), change_text(change))

    def test_from_0_to_2000(self):
        desk = desk_with(turns(2000))
        for row, told in [("go 2000", "0"), ("go 1999", "1999"), ("back 2000", "1999"), ("back 1999", "0")]:
            self.assertEqual(desk.say(row), told)


class Undo(unittest.TestCase):
    def test_each_deed(self):
        desk = Desk()
        kept = [state(desk)]
        for row in [
            "change 2 : 1 -1+1r : 1 0", "go 5", "point 1/2", "back 7", "go 0", "change 0 : 1 2 : 1 0", "point 5/2",
            "go 1", "change 0 : 1 2 : 1 0", "back 0", "point 0", "point 0", "back 1999",
        ]:
            desk.say(row)
            kept.append(state(desk))
        while len(kept) > 1:
            self.assertEqual(state(desk), kept.pop())
            self.assertEqual(desk.say("undo"), "ok")
        self.assertEqual(state(desk), kept[0])
        refused(self, NoRow, desk.say, "undo")
        refused(self, NoRow, desk.say, "undo")
        self.assertEqual(state(desk), ("0 : 1 : 0", "0 0"))

    def test_an_undo_is_not_undone(self):
        desk = Desk()
        desk.say("point 1/2")
        desk.say("point 1/3")
        self.assertEqual(desk.say("undo"), "ok")
        self.assertEqual(desk.say("here"), "1/2 0")
        self.assertEqual(desk.say("undo"), "ok")
        self.assertEqual(desk.say("here"), "0 0")
        refused(self, NoRow, desk.say, "undo")

    def test_deeds_behind_an_undo(self):
        desk = Desk()
        for row, here in [
            ("point 1/2", "1/2 0"), ("undo", "0 0"), ("point 1/3", "1/3 0"), ("point 1/4", "1/4 0"), ("undo", "1/3 0"),
            ("point 1/5", "1/5 0"), ("undo", "1/3 0"), ("undo", "0 0"),
        ]:
            desk.say(row)
            self.assertEqual(desk.say("here"), here)
        refused(self, NoRow, desk.say, "undo")

    def test_asks_and_refusals_are_no_deeds(self):
        desk = Desk()
        desk.say("change 2 : 1 -1+1r : 1 0")
        for row in ASKS:
            desk.say(row)
        for row in ["point 2", "words 41", "period 0", "go 2001", "change 2", "", "show 1"]:
            with self.assertRaises(StretchError):
                desk.say(row)
        self.assertEqual(desk.say("undo"), "ok")
        self.assertEqual(desk.say("show"), "0 : 1 : 0")
        refused(self, NoRow, desk.say, "undo")

    def test_a_change_undone_brings_the_point_back(self):
        desk = desk_with(GOLDEN, ONE)
        desk.say("change 0 : 1 2 : 1 0")
        desk.say("go 1")
        desk.say("undo")
        self.assertEqual(state(desk), ("0 : 1 2 : 1 0", "0 0"))
        desk.say("undo")
        self.assertEqual(state(desk), ("2 : 1 -1+1r : 1 0", "1 1"))

    def test_very_many(self):
        desk = desk_with(turns(7))
        for many in range(3000):
            desk.say("go 1")
        self.assertEqual(desk.say("here"), "4 0")
        for many in range(3000):
            self.assertEqual(desk.say("undo"), "ok")
        self.assertEqual(desk.say("here"), "0 0")


class Asks(unittest.TestCase):
    def test_known(self):
        desk = desk_with(GOLDEN)
        for row, told in [
            ("show", "2 : 1 -1+1r : 1 0"), ("here", "0 0"), ("word 6", "0 0 0 1 0 0"), ("word 1", "0"),
            ("word 0", "none"), ("words 1", "2"), ("words 40", "41"), ("period 2000", "none"), ("period 1", "none"),
            ("parts", "none"), ("step", "1 2 : 2-1r -1+1r : 1 0"),
        ]:
            self.assertEqual(desk.say(row), told)
        desk = desk_with(MIXED, (1, 2, 2))
        for row, told in [
            ("here", "(1+2r)/2 3"), ("word 4", "3 2 3 2"), ("words 1", "5"), ("words 2", "6"), ("period 1", "none"),
            ("period 2", "2"), ("parts", "2 4"), ("show", "2 : 1 -1+1r 1/2 1/2 0+1r : 1 0 3 2 4"),
        ]:
            self.assertEqual(desk.say(row), told)
        refused(self, NoStep, desk.say, "step")
        desk = desk_with(of_cells([1] * 12, range(12)), (11, 0, 1))
        for row, told in [("here", "11 11"), ("word 3", "11 11 11"), ("parts", "1 2 3 4 5 6 7 8 9 10 11")]:
            self.assertEqual(desk.say(row), told)

    def test_as_the_points_tell(self):
        steps = 0
        for change in some_changes(48, "asks") + [TWELVE, FREE, turns(4, 5)]:
            for point in some_points(change)[::9]:
                desk = desk_with(change, point)
                kept = state(desk)
                self.assertEqual(kept, (change_text(change), f"{number_text(point)} {piece_at(change, point)}"))
                for many in (1, 7, 30):
                    word = " ".join(map(str, word_of(change, point, many)))
                    self.assertEqual(desk.say(f"word {many}"), word)
                    period = comes_back(change, point, many)
                    self.assertEqual(desk.say(f"period {many}"), "none" if period is None else str(period))
                self.assertEqual(desk.say("words 5"), str(many_words(change, 5)))
                self.assertEqual(desk.say("parts"), " ".join(map(str, parts_at(change))) or "none")
                if is_even(change):
                    refused(self, NoStep, desk.say, "step")
                else:
                    sort, lesser = step_of(change)
                    self.assertEqual(desk.say("step"), f"{sort} {change_text(lesser)}")
                    steps += 1
                self.assertEqual(state(desk), kept)
        self.assertGreater(steps, 40)

    def test_numbers_that_a_row_lets_and_a_point_does_not(self):
        desk = desk_with(GOLDEN, HALF)
        for row in ["words 0", "words 41", "words 42", "words 2000", "period 0"]:
            refused(self, NoNumber, desk.say, row)
            self.assertEqual(state(desk), ("2 : 1 -1+1r : 1 0", "1/2 0"))
        self.assertEqual(desk.say("word 0"), "none")
        self.assertEqual(len(desk.say("word 2000").split(" ")), 2000)
        self.assertEqual(desk.say("words 40"), "41")
        self.assertEqual(desk.say("period 2000"), "none")

    def test_2000_goes_round(self):
        desk = desk_with(turns(2000), (1, 0, 2))
        self.assertEqual(desk.say("period 2000"), "2000")
        self.assertEqual(desk.say("period 1999"), "none")
        self.assertEqual(desk.say("word 2000"), "0 " * 1999 + "1")
        desk = desk_with(turns(2001), (1, 0, 2))
        self.assertEqual(desk.say("period 2000"), "none")

    def test_all_answers_are_texts(self):
        desk = desk_with(GOLDEN, HALF)
        for row in ASKS + ("point 1/3", "go 3", "back 2", "change 0 : 1 : 0", "undo"):
            self.assertIs(type(desk.say(row)), str)


class Refusals(unittest.TestCase):
    def check(self, row):
        """A row is refused with NoRow, and changes nothing, at a new desk and at one with deeds."""
        refused(self, NoRow, Desk().say, row)
        refused(self, NoRow, self.desk.say, row)
        self.assertEqual(state(self.desk), self.kept)

    def setUp(self):
        self.desk = desk_with(GOLDEN, HALF)
        self.kept = state(self.desk)

    def test_no_texts(self):
        for thing in OTHER_KINDS + [
            0, 1, 10 ** 39, ["show"], ("show",), {"show": 1}, ["go", 1], ("go", 1), GOLDEN, ZERO, [["show"]],
        ]:
            self.check(thing)

    def test_other_words(self):
        for row in [
            "", " ", "Show", "SHOW", "shows", "sho", "s", "undone", "steps", "part", "there", "goes 1", "Go 1",
            "gone", "word", "words", "period", "go", "back", "change", "point", "quit", "help", "none", "ok", "0",
            "1", "7 show", "show show", "show\n", "\nshow", "show\t", "undo\n", "here 0", "show 0", "step 1",
            "parts 1", "undo 1", "undo undo", "show undo", "go1", "go-1", "word5", "go,1", "go:1", "go=1", "go\t1",
            "go\n1", "x" * 2000, " " * 2000, "go " * 666,
        ]:
            self.check(row)

    def test_blanks_ahead_behind_and_twice(self):
        for row in ALONE + tuple(f"{name} 1" for name in WITH_NUMBER) + ("point 1/3", "change 2 : 1 -1+1r : 1 0"):
            self.check(" " + row)
            self.check(row + " ")
            if " " in row:
                self.check(row.replace(" ", "  ", 1))
                self.check(row.replace(" ", "\t", 1))
                self.check(row.replace(" ", "", 1))
                self.check(row.split(" ")[0])
                self.check(row.split(" ")[0] + " ")
                self.check(row + " " + row)
                self.check(row + " 1")
        self.check("change 2 : 1  -1+1r : 1 0")
        self.check("change 2 : 1 -1+1r :  1 0")

    def test_numbers_of_goes(self):
        for name in WITH_NUMBER:
            for text in [
                "2001", "2002", "10000", "1" + "0" * 39, "-1", "-0", "-2000", "00", "01", "0002", "02000", "+1", "+0",
                "1_0", "2_000", "1.0", "1/1", "2/2", "1/2", "0+1r", "1+0r", "1r", "0x1", "one", "none", "None",
                "True", "1,", "(1)", "1 1", "1 2", "", "1\n", "\u0661", "\u00b2",
            ]:
                self.check(f"{name} {text}")

    def test_changes_of_another_form(self):
        for text in NO_CHANGES:
            self.check(f"change {text}")
        for row in ["change2 : 1 -1+1r : 1 0", "change : 1 : 0", "2 : 1 -1+1r : 1 0", "change\t0 : 1 : 0"]:
            self.check(row)

    def test_numbers_of_another_form(self):
        for text in NO_NUMBERS:
            self.check(f"point {text}")

    def test_no_row_comes_ahead_of_all_else(self):
        # None of these would be a point, or a number that is let, if they were written rightly.
        for row in ["point 2/1", "point -07", "point 4/2", "words 041", "words -1", "period 00", "words 2001"]:
            self.check(row)
        refused(self, NoStep, Desk().say, "step")
        refused(self, NoRow, Desk().say, "step ")
        refused(self, NoPoint, Desk().say, "point 1")
        refused(self, NoRow, Desk().say, "point 1/1")

    def test_each_refusal_changes_nothing(self):
        desk = desk_with(MIXED, (1, 2, 2))
        kept = state(desk)
        for row, kind in [
            ("point 7", NoPoint), ("point -1", NoPoint), ("words 0", NoNumber), ("period 0", NoNumber),
            ("step", NoStep), ("go 2001", NoRow), ("change 0", NoRow), (None, NoRow), ("point x", NoRow),
        ]:
            refused(self, kind, desk.say, row)
            self.assertEqual(state(desk), kept)
        self.assertEqual([desk.say("undo") for _ in range(2)], ["ok", "ok"])
        self.assertEqual(state(desk), ("0 : 1 : 0", "0 0"))
        refused(self, NoRow, desk.say, "undo")


class Desks(unittest.TestCase):
    def test_two_desks_have_nothing_in_common(self):
        one, other = Desk(), Desk()
        one.say("change 2 : 1 -1+1r : 1 0")
        one.say("go 3")
        self.assertEqual(state(other), ("0 : 1 : 0", "0 0"))
        refused(self, NoRow, other.say, "undo")
        other.say("change 0 : 1 2 : 1 0")
        other.say("point 5/2")
        self.assertEqual(state(one), ("2 : 1 -1+1r : 1 0", "-3+3r 1"))
        self.assertEqual([one.say("undo"), one.say("undo")], ["ok", "ok"])
        refused(self, NoRow, one.say, "undo")
        self.assertEqual(state(other), ("0 : 1 2 : 1 0", "5/2 1"))
        self.assertEqual(state(Desk()), ("0 : 1 : 0", "0 0"))

    def test_asked_again(self):
        desk = desk_with(FREE, HALF)
        for row in ASKS:
            self.assertEqual(desk.say(row), desk.say(row))

    def test_many_rows(self):
        source = Random("rows")
        changes = [change for change in some_changes(24, "rows") if len(change[1]) < 7] + [GOLDEN, MIXED, STILL]
        desk, kept = Desk(), [(STILL, ZERO)]
        for _ in range(600):
            change, point = kept[-1]
            name = source.choice(["change", "point", "go", "back", "undo", "undo"])
            if name == "undo":
                if len(kept) > 1:
                    kept.pop()
                    self.assertEqual(desk.say("undo"), "ok")
                else:
                    refused(self, NoRow, desk.say, "undo")
            elif name == "change":
                kept.append((source.choice(changes), ZERO))
                self.assertEqual(desk.say(f"change {change_text(kept[-1][0])}"), "ok")
            elif name == "point":
                told = times(change[0], whole_of(change), source.choice([HALF, (2, 0, 7), ONE, ZERO]))
                if less(change[0], told, whole_of(change)):
                    kept.append((change, told))
                    self.assertEqual(desk.say(f"point {number_text(told)}"), number_text(told))
                else:
                    refused(self, NoPoint, desk.say, f"point {number_text(told)}")
            else:
                many = source.randint(0, 30)
                for _ in range(many if name == "go" else 0):
                    point = goes(change, point)
                point = point if name == "go" else after(change, point, -many)
                kept.append((change, point))
                self.assertEqual(desk.say(f"{name} {many}"), number_text(point))
            change, point = kept[-1]
            self.assertTrue(is_change(change))
            self.assertEqual(number_read(number_text(point)), point)
            self.assertEqual(state(desk), (change_text(change), f"{number_text(point)} {piece_at(change, point)}"))

    def test_forty_figures(self):
        many = 10 ** 40 - 1
        change = (97, ((many, 0, many - 1), (many, many - 2, many - 4), (-1, many, many - 6)), (2, 1, 0))
        desk = desk_with(change, (1, 1, many))
        far = desk.say("go 2000")
        self.assertEqual(number_read(far), after(change, (1, 1, many), 2000))
        self.assertEqual(desk.say("back 2000"), number_text((1, 1, many)))
        self.assertEqual(desk.say(f"point {far}"), far)
        self.assertEqual(desk.say("here").split(" ")[0], far)


if __name__ == "__main__":
    unittest.main()
