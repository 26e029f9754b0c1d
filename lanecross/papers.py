"""Papers tell an answer and what shows it; a denial is a paper that says no."""


def fixed(value):
    """The value with tuples in the place of lists, all the way in."""
    if isinstance(value, (list, tuple)):
        return tuple([fixed(part) for part in value])
    return value


def are_same(one, other):
    """Whether two papers are of one class, with equal words and parts."""
    if one.__class__.__name__ != other.__class__.__name__:
        return False
    return one.word == other.word and one.parts == other.parts


def is_just(value, name):
    """Whether a value was made by calling the class of this name, and no class below it."""
    return value.__class__.__name__ == name


class Paper:
    """A paper, which is true."""

    def __init__(self, word, *parts):
        self.word = fixed(word)
        self.parts = fixed(parts)

    def __eq__(self, other):
        return isinstance(other, Paper) and are_same(self, other)

    def __bool__(self):
        return True


class Denial(Paper):
    """A paper that says no: it is false."""

    def __init__(self, word, *parts):
        super().__init__(word, *parts)

    def __eq__(self, other):
        return isinstance(other, Denial) and are_same(self, other)

    def __bool__(self):
        return False
