"""The errors of the package. Each one keeps its fields, as they were passed."""


class LaneError(ValueError):
    """The base of all errors of the package."""


class BadNumber(LaneError):
    """A part is no number, or no integer, as it is asked for."""

    def __init__(self, part):
        self.part = part


class BadSpot(LaneError):
    """A part is no spot, or no station."""

    def __init__(self, part):
        self.part = part


class BadPiece(LaneError):
    """A part is no piece."""

    def __init__(self, part):
        self.part = part


class BadFront(LaneError):
    """A part is no row of stretches, or no front of its piece."""

    def __init__(self, part):
        self.part = part


class BadWorld(LaneError):
    """A part is no world, or none of what a world is made of."""

    def __init__(self, part):
        self.part = part


class BadLevel(LaneError):
    """A part is no level, or none of what a level is made of."""

    def __init__(self, part):
        self.part = part


class BadPlay(LaneError):
    """A part is no play, or no row of commands."""

    def __init__(self, part):
        self.part = part


class BadPaper(LaneError):
    """A part is no paper."""

    def __init__(self, part):
        self.part = part


class Misfit(LaneError):
    """A part does not fit together with the others."""

    def __init__(self, part):
        self.part = part


class NoName(LaneError):
    """Nothing has this name."""

    def __init__(self, value):
        self.value = value


class NoPiece(LaneError):
    """No piece has this number."""

    def __init__(self, value):
        self.value = value


class Twice(LaneError):
    """A value stands there already."""

    def __init__(self, value):
        self.value = value


class TooMany(LaneError):
    """There are more than most."""

    def __init__(self, what, most):
        self.what = what
        self.most = most


class Refused(LaneError):
    """Something that is not let."""

    def __init__(self, why):
        self.why = why


class Nothing(LaneError):
    """There is nothing to take back, or to do again."""


class BadText(LaneError):
    """An item of a text cannot stand there. The line is always 0."""

    def __init__(self, line, item):
        self.line = line
        self.item = item


class BadLine(LaneError):
    """A line raised an error."""

    def __init__(self, line, error):
        self.line = line
        self.error = error
