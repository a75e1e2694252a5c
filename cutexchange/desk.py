"""A desk: it keeps a change and a point, is told rows, and answers each with a text."""

from cutexchange.changes import must_be_point, piece_at
from cutexchange.errors import NoRow, NoText
from cutexchange.numbers import ONE, ZERO
from cutexchange.parts import parts_at
from cutexchange.steps import step_of
from cutexchange.texts import change_read, change_text, number_read, number_text
from cutexchange.walks import after, comes_back, word_of
from cutexchange.words import many_words

DEEDS = ("change", "point", "go", "back")
ALONE = ("undo", "show", "here", "step", "parts")
WITH_NUMBER = ("go", "back", "word", "words", "period")
GREATEST_NUMBER = 2000


class Desk:
    """A change and a point of it, and what they were ahead of each deed that stands."""

    def __init__(self):
        self.change = (0, (ONE,), (0,))
        self.point = ZERO
        self.past = []

    def say(self, row):
        """The answer to a row, of whatever kind."""
        name, told = row_read(row)
        if name == "undo":
            return self.take_back()
        if name in DEEDS:
            return self.do(name, told)
        return self.answer(name, told)

    def take_back(self):
        """Undoes the last deed that stands."""
        if not self.past:
            raise NoRow("there is no deed to undo")
        self.change, self.point = self.past.pop()
        return "ok"

    def do(self, name, told):
        """Does a deed."""
        if name == "change":
            self.keep(told, ZERO)
            return "ok"
        if name == "point":
            must_be_point(self.change, told)
            self.keep(self.change, told)
        else:
            self.keep(self.change, after(self.change, self.point, told if name == "go" else -told))
        return number_text(self.point)

    def keep(self, change, point):
        """Keeps another change and point, and what they were."""
        self.past.append((self.change, self.point))
        self.change, self.point = change, point

    def answer(self, name, told):
        """Answers an ask."""
        if name == "show":
            return change_text(self.change)
        if name == "here":
            return f"{number_text(self.point)} {piece_at(self.change, self.point)}"
        if name == "word":
            return list_text(word_of(self.change, self.point, told))
        if name == "words":
            return str(many_words(self.change, told))
        if name == "period":
            needed = comes_back(self.change, self.point, told)
            return "none" if needed is None else str(needed)
        if name == "step":
            sort, lesser = step_of(self.change)
            return f"{sort} {change_text(lesser)}"
        return list_text(parts_at(self.change))


def row_read(row):
    """The first word of a row, and what is told behind it: a change, a number, a whole number, None where nothing."""
    if not isinstance(row, str):
        raise NoRow("a row is a text")
    if row in ALONE:
        return (row, None)
    name, blank, rest = row.partition(" ")
    try:
        return (name, told_behind(name, rest))
    except NoText:
        raise NoRow("what follows the first word is not written as is due there") from None


def told_behind(name, rest):
    """What the rest of a row tells, as is due behind its first word."""
    if name == "change":
        return change_read(rest)
    if name == "point":
        return number_read(rest)
    if name in WITH_NUMBER:
        return so_many_read(rest)
    raise NoRow("no row begins so")


def so_many_read(text):
    """The whole number from 0 to 2000 that a text is written for."""
    a, b, c = number_read(text)
    if b != 0 or c != 1 or not 0 <= a <= GREATEST_NUMBER:
        raise NoRow("a whole number from 0 to 2000 is due")
    return a


def list_text(wholes):
    """Whole numbers with blanks between, or none."""
    return " ".join([str(whole) for whole in wholes]) if wholes else "none"
