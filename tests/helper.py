"""What several tests use."""

import unittest

from grammar import bent, bent_signs
from lanecross.errors import LaneError
from lanecross.papers import Denial, Paper

ODDITIES = (None, True, False, 0.5, "", "1", "1/2", b"1", (), [], {}, {1: 2}, (1,), [1], (1, 2, 3), object(), len, int)
NO_NUMBERS = tuple(value for value in ODDITIES) + (
    (4, 2), (3, 1), (1, -2), (0, 5), (1, 0), (True, 2), (1, True), ("1", 2), (1, 2.0), (1.0, 2), ((1, 2), 3),
    [[1, 2], 2], [2, [1, 2]], (None, 2), (-4, 6), (10 ** 60, 10), range(2), {1, 2})


class LaneCase(unittest.TestCase):
    def check_raises(self, error, fields, told, *args, **more):
        """Whether just this error comes, with these fields, and what was passed is as before."""
        before = repr((args, more))
        with self.assertRaises(LaneError) as caught:
            told(*args, **more)
        self.assertIs(type(caught.exception), error)
        self.assertEqual(vars(caught.exception), fields)
        self.assertEqual(repr((args, more)), before)
        return caught.exception

    def check_part(self, error, part, told, *args, **more):
        return self.check_raises(error, {"part": part}, told, *args, **more)

    def check_paper_class(self, made, word, names, kind):
        """A class of papers: made with any parts, by place and by name, kept as fixed gives them, and compared."""
        values = [[1, [2, (3, [4])]], None, {"a": [1]}][:len(names)]
        kept = ((1, (2, (3, (4,)))), None, {"a": [1]})[:len(names)]
        for paper in (made(*values), made(**dict(zip(names, values)))):
            self.assertEqual((paper.word, paper.parts), (word, kept))
            self.assertEqual(tuple(getattr(paper, name) for name in names), kept)
            self.assertIsInstance(paper, kind)
            self.assertIs(bool(paper), kind is Paper)
            self.assertTrue(paper == made(*kept))
            self.assertFalse(paper != made(*kept))
            for other in (made(*values[:-1], 5), Paper(word, *values), Denial(word, *values), kept, word, None, 0, True):
                self.assertFalse(paper == other)
                self.assertFalse(other == paper)
        self.assertEqual(issubclass(made, Denial), kind is Denial)
        for odd in ODDITIES:
            self.assertEqual(repr(made(*[odd] * len(names)).parts[-1]), repr(() if odd == [] else (1,) if odd == [1] else odd))

    def check_line(self, line, error, fields, told, *args, **more):
        """Whether just a BadLine comes, of this line, with just this error in it."""
        before = repr((args, more))
        with self.assertRaises(LaneError) as caught:
            told(*args, **more)
        self.assertEqual((type(caught.exception).__name__, list(vars(caught.exception))), ("BadLine", ["line", "error"]))
        self.assertEqual(caught.exception.line, line)
        self.assertIs(type(caught.exception.error), error)
        self.assertEqual(vars(caught.exception.error), fields)
        self.assertEqual(repr((args, more)), before)

    def check_text(self, item, told, text):
        from lanecross.errors import BadText
        self.check_raises(BadText, {"line": 0, "item": item}, told, text)

    def check_bent(self, text, told, expected, as_text=str):
        """A text, and all that it is bent to, item by item and sign by sign: read back, or just that item cannot stand that is expected."""
        self.assertIsNone(expected(text))
        self.assertEqual(as_text(told(text)), text)
        for other in {*bent(text), *bent_signs(text)}:
            item = expected(other)
            with self.subTest(text=other):
                if item is None:
                    self.assertEqual(as_text(told(other)), other)
                else:
                    self.check_text(item, told, other)
