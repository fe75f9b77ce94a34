import copy
import unittest
from fractions import Fraction
from itertools import product
from math import gcd

from tests.samples import END_STEPS, NO_STEPS, NO_TUPLES, PLAIN_STEPS
from tillsteps.errors import BadSteps
from tillsteps.far import slope, width
from tillsteps.steps import pay

RULES = ("down", "up", "near")


def told_width(steps):
    """The width and the rise, read off the document row by row."""
    wide, rise = 1, 1
    for step in steps:
        word, number = step[:2]
        if rise == 0 or word == "most" or (word == "part" and number == 0):
            wide, rise = 1, 0
        elif word == "part":
            shared = max(k for k in range(1, 101) if 100 % k == 0 and rise % k == 0)
            wide, rise = wide * (100 // shared), rise // shared * number
        elif word == "even":
            shared = max(k for k in range(1, number + 1) if number % k == 0 and rise % k == 0)
            wide, rise = wide * (number // shared), rise * (number // shared)
    return wide, rise


class TestExamples(unittest.TestCase):
    def test_interface(self):
        self.assertEqual(width((("part", 90, "up"),)), (100, 90))
        self.assertEqual(slope((("part", 90, "up"),)), (9, 10))
        self.assertEqual(width((("part", 90, "up"), ("even", 5, "down"))), (100, 90))
        self.assertEqual(width((("most", 500), ("add", 3))), (1, 0))


class TestWidth(unittest.TestCase):
    def check(self, steps, wide, rise):
        with self.subTest(steps=steps):
            self.assertEqual(width(steps), (wide, rise))
            self.assertIs(type(width(steps)), tuple)
            self.assertEqual([type(number) for number in width(steps)], [int, int])

    def test_no_steps(self):
        self.check((), 1, 1)

    def test_steps_that_leave_both(self):
        for step in (("add", 5), ("add", 0), ("add", -200), ("least", 0), ("least", 1000)):
            self.check((step,), 1, 1)
            self.check((("part", 90, "up"), step), 100, 90)
            self.check((step, ("even", 10, "near")), 10, 10)

    def test_part_alone(self):
        for rule in RULES:
            for number in (1, 33, 50, 90, 100, 150, 200):
                self.check((("part", number, rule),), 100, number)

    def test_part_behind_a_rise_that_shares_a_divisor(self):
        half = ("part", 50, "down")
        self.check((half, half), 200, 50)
        self.check((half, half, half), 400, 50)
        self.check((("part", 90, "up"), ("part", 90, "up")), 1000, 810)
        self.check((("even", 10, "up"), ("part", 90, "up")), 100, 90)
        self.check((("even", 100, "up"), ("part", 90, "up")), 100, 90)
        self.check((("even", 4, "up"), ("part", 7, "near")), 100, 7)
        self.check((("even", 8, "up"), ("part", 7, "near")), 200, 14)
        self.check((("even", 7, "up"), ("part", 50, "near")), 700, 350)
        self.check((("part", 100, "near"), ("part", 100, "up")), 100, 100)
        self.check((("part", 200, "near"), ("part", 1, "up")), 100, 2)

    def test_part_of_nothing(self):
        for rule in RULES:
            nothing = ("part", 0, rule)
            self.check((nothing,), 1, 0)
            self.check((("part", 90, "up"), nothing), 1, 0)
            self.check((("even", 7, "up"), nothing), 1, 0)

    def test_most(self):
        for most in (0, 500, 1000):
            self.check((("most", most),), 1, 0)
            self.check((("part", 90, "up"), ("even", 7, "up"), ("most", most)), 1, 0)

    def test_no_rise_stays(self):
        for flat in (("most", 1000), ("most", 0), ("part", 0, "near")):
            for step in PLAIN_STEPS + END_STEPS:
                self.check((flat, step), 1, 0)
                self.check((("part", 90, "up"), flat, step, ("even", 7, "up"), ("part", 33, "up")), 1, 0)

    def test_even(self):
        for rule in RULES:
            for number in (2, 5, 7, 10, 100):
                self.check((("even", number, rule),), number, number)
        self.check((("even", 4, "up"), ("even", 6, "up")), 12, 12)
        self.check((("even", 6, "up"), ("even", 3, "up")), 6, 6)
        self.check((("even", 3, "up"), ("even", 6, "up")), 6, 6)
        self.check((("even", 7, "up"), ("even", 10, "up")), 70, 70)
        self.check((("even", 10, "up"), ("even", 10, "near")), 10, 10)

    def test_even_behind_part(self):
        self.check((("part", 90, "up"), ("even", 4, "down")), 200, 180)
        self.check((("part", 90, "up"), ("even", 7, "down")), 700, 630)
        self.check((("part", 90, "up"), ("even", 100, "down")), 1000, 900)
        self.check((("part", 50, "up"), ("even", 100, "down")), 200, 100)

    def test_six_steps(self):
        self.check((("part", 1, "up"),) * 6, 10 ** 12, 1)
        self.check((("part", 99, "up"), ("even", 100, "up"), ("add", 3), ("part", 33, "down"), ("least", 9),
                    ("even", 9, "near")), 10000, 3267)
        self.check((("even", 97, "up"), ("even", 89, "up"), ("even", 83, "up"), ("even", 79, "up"),
                    ("even", 73, "up"), ("even", 71, "up")), *(97 * 89 * 83 * 79 * 73 * 71,) * 2)

    def test_as_told(self):
        for count in (1, 2):
            for steps in product(PLAIN_STEPS + END_STEPS, repeat=count):
                self.check(steps, *told_width(steps))
        for number in range(201):
            self.check((("even", 15, "up"), ("part", number, "up")),
                       *told_width((("even", 15, "up"), ("part", number, "up"))))
        for number in range(2, 101):
            steps = (("part", 60, "up"), ("even", number, "up"), ("part", 90, "near"))
            self.check(steps, *told_width(steps))

    def test_final_prices_rise_by_the_rise(self):
        start = 10 ** 20
        some = [("part", 0, "up"), ("part", 33, "near"), ("part", 90, "up"), ("part", 150, "down"), ("add", -7),
                ("even", 10, "near"), ("even", 7, "up"), ("least", 30), ("most", 45)]
        for steps in list(product(some, repeat=3)) + [()]:
            wide, rise = width(steps)
            for price in [start + more for more in (0, 1, 2, 3, 5, 49, 50, 51, 99, 100, 333, 12345)]:
                self.assertEqual(pay(steps, price + wide), pay(steps, price) + rise, (steps, price))


class TestSlope(unittest.TestCase):
    def check(self, steps, above, below):
        with self.subTest(steps=steps):
            self.assertEqual(slope(steps), (above, below))
            self.assertIs(type(slope(steps)), tuple)
            self.assertEqual([type(number) for number in slope(steps)], [int, int])

    def test_no_steps(self):
        self.check((), 1, 1)

    def test_no_rise(self):
        self.check((("most", 500),), 0, 1)
        self.check((("part", 0, "up"),), 0, 1)
        self.check((("part", 90, "up"), ("most", 0), ("even", 7, "up")), 0, 1)

    def test_single_steps(self):
        self.check((("add", -9),), 1, 1)
        self.check((("least", 9),), 1, 1)
        self.check((("even", 10, "near"),), 1, 1)
        self.check((("part", 1, "up"),), 1, 100)
        self.check((("part", 33, "up"),), 33, 100)
        self.check((("part", 50, "up"),), 1, 2)
        self.check((("part", 100, "up"),), 1, 1)
        self.check((("part", 150, "up"),), 3, 2)
        self.check((("part", 200, "up"),), 2, 1)

    def test_rows(self):
        self.check((("part", 90, "up"), ("part", 90, "up")), 81, 100)
        self.check((("part", 90, "up"), ("even", 7, "down"), ("part", 50, "near")), 9, 20)
        self.check((("part", 200, "up"),) * 6, 64, 1)
        self.check((("part", 50, "up"), ("part", 200, "up")), 1, 1)

    def test_is_the_rise_by_the_width(self):
        for steps in product(PLAIN_STEPS + END_STEPS, repeat=2):
            wide, rise = width(steps)
            above, below = slope(steps)
            self.assertEqual(Fraction(rise, wide), Fraction(above, below), steps)
            self.assertEqual(gcd(above, below), 1, steps)
            self.assertGreater(below, 0, steps)


class TestWrongSteps(unittest.TestCase):
    def check(self, steps, index):
        for function in (width, slope):
            kept = copy.deepcopy(steps)
            with self.subTest(steps=steps, function=function.__name__):
                with self.assertRaises(BadSteps) as caught:
                    function(steps)
                self.assertEqual(caught.exception.index, index)
                self.assertEqual(steps, kept)

    def test_no_tuple_of_at_most_six(self):
        for value in NO_TUPLES:
            self.check(value, None)

    def test_no_step(self):
        for value in NO_STEPS:
            self.check((value,), 0)
            self.check((("most", 5), ("part", 0, "up"), value, None), 2)
            self.check((("part", 90, "up"),) * 5 + (value,), 5)

    def test_repeated_calls(self):
        steps = (("part", 90, "up"), ("even", 7, "down"))
        with self.assertRaises(BadSteps):
            width(steps + (None,))
        self.assertEqual([width(steps), width(steps)], [(700, 630), (700, 630)])
        self.assertEqual([slope(steps), slope(steps)], [(9, 10), (9, 10)])


if __name__ == "__main__":
    unittest.main()
