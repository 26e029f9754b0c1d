import random
import unittest
from fractions import Fraction

from helper import NO_NUMBERS, ODDITIES, LaneCase
from lanecross import numbers
from lanecross.checks import is_number
from lanecross.errors import BadNumber, Misfit
from lanecross.numbers import (distance, greatest, is_less, least, minus, number_of, number_text, over, plus, ratio,
                               times)
from reference import frac, number

PAIRS = {"plus": lambda one, other: one + other, "minus": lambda one, other: one - other,
         "times": lambda one, other: one * other, "over": lambda one, other: one / other,
         "distance": lambda one, other: abs(one - other)}


def random_numbers(seed, digits, many):
    source = random.Random(seed)
    found = []
    for _ in range(many):
        above = source.randint(-10 ** digits, 10 ** digits)
        found.append(number(Fraction(above, source.choice((1, 2, 3, source.randint(1, 10 ** digits))))))
    return [0, 1, -1, (1, 2), [-1, 2], *found]


class ReckoningTest(LaneCase):
    def check_one_form(self, value, wanted):
        self.assertIs(is_number(value), True)
        self.assertIn(type(value), (int, tuple))
        self.assertEqual(frac(value), wanted)

    def test_all_pairs(self):
        for digits, many in ((1, 14), (6, 10), (30, 8), (60, 6), (100, 6)):
            values = random_numbers(digits, digits, many)
            for one in values:
                for other in values:
                    for name, wanted in PAIRS.items():
                        if name == "over" and other == 0:
                            continue
                        told = getattr(numbers, name)(one, other)
                        self.check_one_form(told, wanted(frac(one), frac(other)))
                        self.assertEqual(getattr(numbers, name)(other=other, one=one), told)
                    self.assertIs(is_less(one, other), frac(one) < frac(other))

    def test_sums_that_are_integers(self):
        self.assertEqual([plus((1, 2), (1, 2)), minus((7, 3), (1, 3)), times((2, 3), (3, 2)), over((1, 2), (1, 4))],
                         [1, 2, 1, 2])
        self.assertEqual([distance(-3, 4), distance((1, 2), (1, 2)), times(0, (1, 2)), over(0, (-1, 3))], [7, 0, 0, 0])

    def test_wrong_numbers(self):
        for name in (*PAIRS, "is_less"):
            told = getattr(numbers, name)
            for value in NO_NUMBERS:
                self.check_part(BadNumber, "one", told, value, 1)
                self.check_part(BadNumber, "other", told, 1, value)
                self.check_part(BadNumber, "one", told, value, value)
        self.check_part(BadNumber, "one", over, (2, 4), 0)
        self.check_part(Misfit, "other", over, (1, 2), 0)
        self.check_part(Misfit, "other", over, 0, 0)

    def test_ratio(self):
        for above in (-12, -6, -1, 0, 1, 4, 6, 10 ** 100, -10 ** 60):
            for below in (-12, -4, -3, -1, 1, 2, 3, 9, 10 ** 60, -10 ** 100):
                self.check_one_form(ratio(above, below), Fraction(above, below))
        self.assertEqual(ratio(below=-4, above=6), (-3, 2))
        for value in (*ODDITIES, (1, 2), [3, 2], 2.0):
            self.check_part(BadNumber, "above", ratio, value, 1)
            self.check_part(BadNumber, "below", ratio, 1, value)
            self.check_part(BadNumber, "above", ratio, value, 0)
        self.check_part(BadNumber, "below", ratio, 1, 0)
        self.check_part(BadNumber, "below", ratio, 0, 0)

    def test_least_and_greatest(self):
        for digits in (1, 6, 60, 100):
            values = random_numbers(digits + 7, digits, 12)
            for many in range(1, len(values)):
                part = values[:many][::-1]
                self.check_one_form(least(part), min(frac(value) for value in part))
                self.check_one_form(greatest(tuple(part)), max(frac(value) for value in part))
        self.assertEqual([least((1, 2)), greatest([4, 2]), least([[1, 2]]), greatest([[5, 2], (5, 2)])], [1, 4, (1, 2), (5, 2)])
        self.assertEqual([least(values=[1, -1]), greatest(values=[1, -1])], [-1, 1])

    def test_wrong_lists(self):
        for told in (least, greatest):
            for value in (None, True, 3, 0.5, "12", {1: 2}, {1, 2}, (), [], range(3), [1, None], [True], [(2, 4)], [1, [1]],
                          ((1, 2), "1"), [[[1, 2]]]):
                self.check_part(BadNumber, "values", told, value)

    def test_nothing_is_changed(self):
        one, rows = [1, 2], [[1, 2], [3, 4]]
        plus(one, one), over(one, one), least(rows), greatest(rows), number_text(one)
        self.assertEqual((one, rows), ([1, 2], [[1, 2], [3, 4]]))
        told = least([one])
        one[0] = 5
        self.assertEqual(told, (1, 2))


class NumeralsTest(LaneCase):
    def test_there_and_back(self):
        for digits in (1, 3, 30, 59):
            for value in random_numbers(digits + 70, digits, 40):
                told = number_text(value)
                self.assertEqual(told, str(frac(value)))
                self.assertEqual(number_of(told), number(frac(value)))

    def test_texts(self):
        most = "9" * 60
        for text, value in (("0", 0), ("7", 7), ("-7", -7), ("10", 10), ("7/2", (7, 2)), ("-7/2", (-7, 2)), ("1/10", (1, 10)),
                            (most, 10 ** 60 - 1), ("-" + most, 1 - 10 ** 60), (most + "/2", (10 ** 60 - 1, 2)),
                            ("2/" + most, (2, 10 ** 60 - 1)), ("-2/" + most, (-2, 10 ** 60 - 1))):
            self.assertEqual(number_of(text), value)
            self.assertEqual(number_text(value), text)
            self.assertEqual((number_of(text=text), number_text(value=value)), (value, text))

    def test_great_integers_are_written(self):
        self.assertEqual(number_text(10 ** 60), "1" + "0" * 60)
        self.assertEqual(number_text((-(10 ** 100), 10 ** 99 + 1)), "-1" + "0" * 100 + "/1" + "0" * 98 + "1")
        self.assertEqual(number_text(-(10 ** 6000) - 7), "-1" + "0" * 5999 + "7")
        self.assertEqual(number_text(10 ** 120), "1" + "0" * 120)
        self.assertEqual(number_text((10 ** 60 - 1) * 10 ** 60), "9" * 60 + "0" * 60)

    def test_wrong_texts(self):
        much = "1" + "0" * 60
        for text in ("", " ", "-", "+", "+7", "--7", "-0", "00", "07", "-07", "7-", "- 7", " 7", "7 ", "7 8", "7\n", "\t7", "1_0",
                     "0x1", "1.0", "1e3", "a", "4/2", "3/1", "7/0", "0/5", "0/1", "-0/5", "7/-2", "7/+2", "+7/2", "--7/2", "07/2",
                     "7/02", "/2", "7/", "/", "7//2", "7/2/3", "7 /2", "7/ 2", "-/2", "-6/4", "6/-4", "7/1", "1/1",
                     "\u0663", "\u00b2", "\uff17", "7/\u0662", "\u221e", much, "-" + much, much + "/3", "3/" + much,
                     much + "/" + much, "1" * 20000, "-" * 20000, "7/2 ", "7/2\n"):
            self.check_text(0, number_of, text)

    def test_no_strings(self):
        for value in (*ODDITIES, 7, (7, 2), ["7"], b"7", 7.0):
            if not isinstance(value, str):
                self.check_text(0, number_of, value)

    def test_no_numbers(self):
        for value in NO_NUMBERS:
            self.check_part(BadNumber, "value", number_text, value)


if __name__ == "__main__":
    unittest.main()
