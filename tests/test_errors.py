import copy
import pickle
import unittest

from lanecross import errors

FIELDS = {name: ("part",) for name in (
    "BadNumber BadSpot BadPiece BadFront BadWorld BadLevel BadPlay BadPaper Misfit").split()}
FIELDS.update({
    "NoName": ("value",), "NoPiece": ("value",), "Twice": ("value",), "TooMany": ("what", "most"),
    "Refused": ("why",), "Nothing": (), "BadText": ("line", "item"), "BadLine": ("line", "error")})
VALUES = ["part", 0, None, True, 0.5, [1, [2]], (1, 2), {"a": [1]}, {1}, b"x", 10 ** 5000, object(), ValueError, "x" * 5000]


class ErrorsTest(unittest.TestCase):
    def test_there_are_no_others(self):
        found = {name for name, value in vars(errors).items() if isinstance(value, type)}
        self.assertEqual(found, {*FIELDS, "LaneError"})

    def test_base(self):
        self.assertTrue(issubclass(errors.LaneError, ValueError))
        self.assertEqual(errors.LaneError.__bases__, (ValueError,))

    def test_each_is_directly_below_the_base(self):
        for name in FIELDS:
            self.assertEqual(getattr(errors, name).__bases__, (errors.LaneError,), name)

    def test_none_is_another_one(self):
        for name, fields in FIELDS.items():
            made = getattr(errors, name)(*fields)
            for other in FIELDS:
                self.assertEqual(isinstance(made, getattr(errors, other)), name == other)
            self.assertIsInstance(made, errors.LaneError)
            self.assertIsInstance(made, ValueError)
            self.assertNotIsInstance(made, (KeyError, LookupError, TypeError, ArithmeticError))

    def test_fields_by_place_and_by_name(self):
        for name, fields in FIELDS.items():
            for first in VALUES:
                for second in VALUES[:4]:
                    values = (first, second)[:len(fields)]
                    for made in (getattr(errors, name)(*values), getattr(errors, name)(**dict(zip(fields, values)))):
                        self.assertEqual(set(vars(made)), set(fields))
                        for field, value in zip(fields, values):
                            self.assertIs(getattr(made, field), value)

    def test_names_in_any_order(self):
        made = errors.TooMany(most=3, what="pieces")
        self.assertEqual((made.what, made.most), ("pieces", 3))
        made = errors.BadText(item=4, line=0)
        self.assertEqual((made.line, made.item), (0, 4))

    def test_wrong_fields(self):
        for name, fields in FIELDS.items():
            if fields:
                with self.assertRaises(TypeError):
                    getattr(errors, name)()
                with self.assertRaises(TypeError):
                    getattr(errors, name)(*fields, "more")
                with self.assertRaises(TypeError):
                    getattr(errors, name)(other=1)

    def test_caught_by_its_base(self):
        for name, fields in FIELDS.items():
            for base in (getattr(errors, name), errors.LaneError, ValueError, Exception):
                try:
                    raise getattr(errors, name)(*fields)
                except base as error:
                    self.assertIs(type(error), getattr(errors, name))

    def test_copies(self):
        for name, fields in FIELDS.items():
            made = getattr(errors, name)(*fields)
            for twin in (copy.copy(made), pickle.loads(pickle.dumps(made))):
                self.assertEqual(vars(twin), vars(made))
                self.assertIs(type(twin), type(made))

    def test_told_as_in_the_document(self):
        self.assertEqual(repr(errors.BadText(0, 5)), "BadText(0, 5)")
        self.assertEqual(repr(errors.BadLine(1, errors.Refused("hop"))), "BadLine(1, Refused('hop'))")
        self.assertEqual(repr(errors.Nothing()), "Nothing()")
        self.assertIsInstance(str(errors.NoPiece(value=3)), str)


if __name__ == "__main__":
    unittest.main()
