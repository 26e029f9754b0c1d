"""Each example of the document, as it stands there."""

import importlib
import os
import unittest

MODULES = ["errors", "checks", "papers", "numbers", "pieces", "fronts", "worlds", "turned"]
HERE = os.path.dirname(os.path.abspath(__file__))


def all_names():
    names = {}
    for module in MODULES:
        names.update(vars(importlib.import_module("lanecross." + module)))
    return names


def read_examples():
    """Triples (number of the row, what is told, what is expected or None)."""
    with open(os.path.join(HERE, "examples.txt"), encoding="ascii") as stream:
        rows = stream.read().split("\n")
    found = []
    for number, row in enumerate(rows, start=1):
        if row.startswith(">>> "):
            found.append([number, row[4:], None])
        elif row and not row.startswith("#"):
            found[-1][2] = row
    return found


class ExamplesTest(unittest.TestCase):
    def test_there_are_all(self):
        self.assertEqual(len(read_examples()), 47)

    def test_examples(self):
        names = all_names()
        for number, told, expected in read_examples():
            with self.subTest(row=number, told=told):
                if expected is None:
                    exec(told, names)
                elif expected.startswith("raises "):
                    self.check_raises(told, expected[len("raises "):], names)
                else:
                    self.assertEqual(repr(eval(told, names)), expected)

    def check_raises(self, told, expected, names):
        wanted = eval(expected, names)
        if isinstance(wanted, type):
            wanted = wanted()
        with self.assertRaises(names["LaneError"]) as caught:
            eval(told, names)
        self.assertIs(type(caught.exception), type(wanted))
        self.assertEqual(vars(caught.exception), vars(wanted))


if __name__ == "__main__":
    unittest.main()
