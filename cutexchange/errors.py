"""The refusals of this program, one class for each kind."""


class StretchError(ValueError):
    """Any refusal."""


class NoNumber(StretchError):
    """What was to be a number, or a number of goes, steps or the like, is none of those let."""


class NoChange(StretchError):
    """What was to be a change, or a change of some sort, is none."""


class NoPoint(StretchError):
    """What was to be a point of a change is none."""


class NoStretch(StretchError):
    """What was to be a stretch of a change is none."""


class NoWord(StretchError):
    """What was to be a word of pieces is none."""


class NoStep(StretchError):
    """There is no such step of a change."""


class Unlike(StretchError):
    """Two changes do not have one root, or not one whole."""


class NoText(StretchError):
    """A text is not written as a number, or a change, is."""


class NoRow(StretchError):
    """A desk does not know a row."""


class TooMany(StretchError):
    """An answer would have more parts than are let."""
