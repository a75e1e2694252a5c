"""Numbers and changes written as texts, and read again.

What is read is written again and held against the text: so each number and each change is read from one text alone.
"""

from cutexchange.changes import is_change
from cutexchange.errors import NoText
from cutexchange.numbers import is_number

FIGURES = "0123456789"
# Python's own str and int refuse numbers of some thousands of figures, so figures are written and read in parts.
PART = 10 ** 60
PART_FIGURES = 60
# A text of a number tells no root: any but 0 lets all numbers be.
SOME_ROOT = 2


def number_text(number):
    """A number as a text."""
    a, b, c = number
    top = figures_of(a)
    if b != 0:
        sign = "+" if b > 0 else ""
        top = f"{top}{sign}{figures_of(b)}r"
    if c == 1:
        return top
    return f"({top})/{figures_of(c)}" if b != 0 else f"{top}/{figures_of(c)}"


def change_text(change):
    """A change as a text."""
    root, longs, order = change
    long_texts = " ".join([number_text(long) for long in longs])
    order_texts = " ".join([str(piece) for piece in order])
    return f"{root} : {long_texts} : {order_texts}"


def number_read(text):
    """The number that a text is written for."""
    must_be_text(text)
    top, slash, bottom = text.partition("/")
    a, b = top_read(top[1:-1] if top.startswith("(") else top)
    number = (a, b, 1 if slash == "" else whole_read(bottom))
    if not is_number(SOME_ROOT, number) or number_text(number) != text:
        raise NoText("the text is not written as a number is")
    return number


def change_read(text):
    """The change that a text is written for."""
    must_be_text(text)
    parts = text.split(" : ")
    if len(parts) != 3:
        raise NoText("a change is written as its root, its longs and its order")
    longs = tuple([number_read(part) for part in parts[1].split(" ")])
    order = tuple([whole_read(part) for part in parts[2].split(" ")])
    change = (whole_read(parts[0]), longs, order)
    if not is_change(change) or change_text(change) != text:
        raise NoText("the text is not written as a change is")
    return change


def must_be_text(thing):
    """Refuses what is no text."""
    if not isinstance(thing, str):
        raise NoText("a text is due")


def top_read(text):
    """The two whole numbers of a number's top, the second one 0 where there is no root part."""
    if not text.endswith("r"):
        return (whole_read(text), 0)
    between = max(text.rfind("+"), text.rfind("-"))
    return (whole_read(text[:between]), whole_read(text[between:-1].removeprefix("+")))


def whole_read(text):
    """The whole number that figures tell, perhaps with a minus sign ahead; noughts ahead are let here."""
    figures = text.removeprefix("-")
    if figures == "" or not all(sign in FIGURES for sign in figures):
        raise NoText("a whole number is written in figures")
    whole = 0
    for sign in figures:
        whole = 10 * whole + int(sign)
    return -whole if text.startswith("-") else whole


def figures_of(whole):
    """A whole number in figures, a minus sign ahead where it is below 0."""
    rest = abs(whole)
    parts = []
    while rest >= PART:
        rest, part = divmod(rest, PART)
        parts.append(str(part).zfill(PART_FIGURES))
    sign = "-" if whole < 0 else ""
    return sign + str(rest) + "".join(parts[::-1])
