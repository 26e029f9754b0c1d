"""Each example of the document, as it stands there."""

import importlib
import os
import unittest

HERE = os.path.dirname(os.path.abspath(__file__))


def read_examples():
    """Lists (number of the row, module, what is told, what is expected or None)."""
    with open(os.path.join(HERE, "examples.txt"), encoding="ascii") as stream:
        rows = stream.read().split("\n")
    found, module = [], None
    for number, row in enumerate(rows, start=1):
        if row.startswith("# lanecross/"):
            module = row[len("# "):-len(".py")].replace("/", ".")
        elif row.startswith(">>> "):
            found.append([number, module, row[4:], None])
        elif row:
            found[-1][3] = row
    return found


class ExamplesTest(unittest.TestCase):
    def test_there_are_all(self):
        examples = read_examples()
        self.assertEqual(len({module for _, module, _, _ in examples}), 23)
        self.assertEqual(len(examples), 186)

    def test_examples(self):
        # Names are used as earlier examples made them last, but each module tells its own anew.
        names, last = vars(importlib.import_module("lanecross.errors")).copy(), None
        for number, module, told, expected in read_examples():
            if module != last:
                names.update(vars(importlib.import_module(module)))
                last = module
            with self.subTest(row=number, told=told):
                if expected is None:
                    exec(told, names)
                elif expected.startswith("raises "):
                    self.check_raises(told, expected[len("raises "):], names)
                else:
                    self.assertEqual(repr(eval(told, names)), expected)

    def check_raises(self, told, expected, names):
        wanted = eval(expected, names)
        if isinstance(wanted, type):
            wanted = wanted()
        with self.assertRaises(names["LaneError"]) as caught:
            eval(told, names)
        self.check_same(caught.exception, wanted)

    def check_same(self, error, wanted):
        """One error may be a field of another one."""
        self.assertIs(type(error), type(wanted))
        self.assertEqual(list(vars(error)), list(vars(wanted)))
        for field, value in vars(wanted).items():
            if isinstance(value, Exception):
                self.check_same(getattr(error, field), value)
            else:
                self.assertEqual(getattr(error, field), value)


if __name__ == "__main__":
    unittest.main()
