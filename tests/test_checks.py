import unittest

from helper import NO_NUMBERS, ODDITIES
from lanecross.checks import is_integer, is_lot, is_number, is_spot, is_within

GREAT = 10 ** 100 + 1


class ChecksTest(unittest.TestCase):
    def test_integers(self):
        for value in (0, 1, -1, 7, GREAT, -GREAT, 2 ** 3000):
            self.assertIs(is_integer(value), True)
        for value in (*ODDITIES, (1, 2), 1.0):
            self.assertIs(is_integer(value), False)

    def test_within(self):
        for value, least, most, told in (
                (3, 3, 3, True), (3, 4, None, False), (3, None, 2, False), (3, None, 3, True), (3, 3, None, True),
                (-GREAT, None, None, True), (GREAT, 0, GREAT, True), (GREAT, 0, GREAT - 1, False), (0, 1, -1, False),
                (True, 0, 1, False), (False, None, None, False), (1.0, 0, 2, False), ("1", 0, 2, False),
                (None, None, None, False), ((1, 2), 0, 1, False), (-1, 0, None, False)):
            self.assertIs(is_within(value, least, most), told, (value, least, most))
            self.assertIs(is_within(value=value, least=least, most=most), told)

    def test_numbers(self):
        for value in (0, -7, GREAT, (1, 2), [1, 2], (-1, 2), (7, 3), (GREAT, 2), (2, GREAT), [-GREAT, GREAT - 1]):
            self.assertIs(is_number(value), True, value)
        for value in (*NO_NUMBERS, (2 * GREAT, 2), (GREAT, GREAT), (3, GREAT * 3), (0, GREAT), (1, -GREAT), "7/2"):
            self.assertIs(is_number(value), False, value)

    def test_spots(self):
        for value in ((0, 0), [0, 1], (0, [1, 2]), [[1, 2], (-3, 2)], (4, 2), (3, 1), (GREAT, (GREAT, 2))):
            self.assertIs(is_spot(value), True, value)
        for value in (*ODDITIES, (1, (2, 4)), ((2, 4), 1), (True, 1), (1, False), (1, None), ("1", 2), ((1, 2),),
                      ((1, 2), (1, 3), (1, 4)), [[[1, 2], 2], 3], "12", {1: 1, 2: 2}):
            self.assertIs(is_spot(value), False, value)

    def test_lots(self):
        for value in ((), [], [0], (0, 1, 4)):
            self.assertIs(is_lot(value, 5), True)
        for value in (None, 0, "01", (1, 1), (2, 1), (0, 5), (-1,), (True,), ((0,),), {0: 1}, (0.0,)):
            self.assertIs(is_lot(value, 5), False)

    def test_by_name(self):
        self.assertEqual([is_integer(value=1), is_number(value=(1, 2)), is_spot(value=(1, 2))], [True] * 3)


if __name__ == "__main__":
    unittest.main()
