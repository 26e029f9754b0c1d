"""What several tests use."""

import unittest

from lanecross.errors import LaneError

ODDITIES = (None, True, False, 0.5, "", "1", "1/2", b"1", (), [], {}, {1: 2}, (1,), [1], (1, 2, 3), object(), len, int)
NO_NUMBERS = tuple(value for value in ODDITIES) + (
    (4, 2), (3, 1), (1, -2), (0, 5), (1, 0), (True, 2), (1, True), ("1", 2), (1, 2.0), (1.0, 2), ((1, 2), 3),
    [[1, 2], 2], [2, [1, 2]], (None, 2), (-4, 6), (10 ** 60, 10), range(2), {1, 2})


class LaneCase(unittest.TestCase):
    def check_raises(self, error, fields, told, *args, **more):
        """Whether just this error comes, with these fields, and what was passed is as before."""
        before = repr((args, more))
        with self.assertRaises(LaneError) as caught:
            told(*args, **more)
        self.assertIs(type(caught.exception), error)
        self.assertEqual(vars(caught.exception), fields)
        self.assertEqual(repr((args, more)), before)
        return caught.exception

    def check_part(self, error, part, told, *args, **more):
        return self.check_raises(error, {"part": part}, told, *args, **more)

    def check_text(self, item, told, text):
        from lanecross.errors import BadText
        self.check_raises(BadText, {"line": 0, "item": item}, told, text)
