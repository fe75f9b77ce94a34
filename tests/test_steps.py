import copy
import unittest
from fractions import Fraction
from itertools import product
from math import ceil, floor

from tests.samples import END_STEPS, NO_PRICES, NO_STEPS, NO_TUPLES, PLAIN_STEPS
from tillsteps.errors import BadPrice, BadSteps
from tillsteps.steps import pay, trail

ROUNDED = {"down": floor, "up": ceil, "near": lambda quotient: floor(quotient + Fraction(1, 2))}


def told(step, price):
    """What the document says that the step makes of the price, in exact fractions."""
    word, number = step[:2]
    if word == "part":
        return ROUNDED[step[2]](Fraction(price * number, 100))
    if word == "even":
        return ROUNDED[step[2]](Fraction(price, number)) * number
    return {"add": max(0, price + number), "least": max(price, number), "most": min(price, number)}[word]


def told_trail(steps, price):
    reached = [price]
    for step in steps:
        reached.append(told(step, reached[-1]))
    return reached


class TestExamples(unittest.TestCase):
    def test_interface(self):
        self.assertEqual(pay((("part", 90, "near"), ("add", -5)), 45), 36)
        self.assertEqual(trail((("add", -5), ("part", 90, "near")), 45), [45, 40, 36])
        self.assertEqual(pay((("even", 5, "up"),), 41), 45)
        with self.assertRaises(BadSteps) as caught:
            pay((("part", 90, "nearly"),), 45)
        self.assertEqual(caught.exception.index, 0)


class TestSingleSteps(unittest.TestCase):
    def check(self, step, pairs):
        for price, final in pairs:
            with self.subTest(step=step, price=price):
                self.assertEqual(pay((step,), price), final)
                self.assertIs(type(pay((step,), price)), int)

    def test_part_down(self):
        self.check(("part", 50, "down"), [(0, 0), (1, 0), (2, 1), (3, 1), (4, 2)])
        self.check(("part", 1, "down"), [(99, 0), (100, 1), (101, 1), (199, 1), (200, 2)])

    def test_part_up(self):
        self.check(("part", 50, "up"), [(0, 0), (1, 1), (2, 1), (3, 2), (4, 2)])
        self.check(("part", 1, "up"), [(0, 0), (1, 1), (99, 1), (100, 1), (101, 2)])

    def test_part_near_around_the_half(self):
        self.check(("part", 1, "near"), [(0, 0), (49, 0), (50, 1), (51, 1), (100, 1), (149, 1), (150, 2), (151, 2)])
        self.check(("part", 50, "near"), [(1, 1), (2, 1), (3, 2), (5, 3)])
        self.check(("part", 90, "near"), [(5, 5), (4, 4), (6, 5), (10, 9), (15, 14), (45, 41)])
        self.check(("part", 33, "near"), [(1, 0), (2, 1), (50, 17), (150, 50)])

    def test_part_beyond_the_whole(self):
        self.check(("part", 150, "down"), [(1, 1), (2, 3), (3, 4)])
        self.check(("part", 150, "up"), [(1, 2), (2, 3), (3, 5)])
        self.check(("part", 101, "near"), [(49, 49), (50, 51), (51, 52)])

    def test_part_at_the_ends(self):
        for rule in ("down", "up", "near"):
            self.check(("part", 0, rule), [(0, 0), (1, 0), (10 ** 30, 0)])
            self.check(("part", 100, rule), [(0, 0), (7, 7), (10 ** 30, 10 ** 30)])
            self.check(("part", 200, rule), [(0, 0), (1, 2), (10 ** 30, 2 * 10 ** 30)])

    def test_add(self):
        self.check(("add", 5), [(0, 5), (7, 12)])
        self.check(("add", 0), [(0, 0), (7, 7)])
        self.check(("add", 200), [(0, 200), (10 ** 30, 10 ** 30 + 200)])

    def test_add_stops_at_zero(self):
        self.check(("add", -5), [(0, 0), (4, 0), (5, 0), (6, 1), (45, 40)])
        self.check(("add", -200), [(0, 0), (199, 0), (200, 0), (201, 1), (10 ** 30, 10 ** 30 - 200)])

    def test_even(self):
        self.check(("even", 10, "down"), [(0, 0), (9, 0), (10, 10), (11, 10), (19, 10), (20, 20)])
        self.check(("even", 10, "up"), [(0, 0), (1, 10), (9, 10), (10, 10), (11, 20), (20, 20)])
        self.check(("even", 10, "near"), [(0, 0), (4, 0), (5, 10), (6, 10), (10, 10), (14, 10), (15, 20), (16, 20)])

    def test_even_of_an_odd_number(self):
        self.check(("even", 7, "near"), [(3, 0), (4, 7), (7, 7), (10, 7), (11, 14)])
        self.check(("even", 5, "near"), [(2, 0), (3, 5), (7, 5), (8, 10)])
        self.check(("even", 3, "down"), [(2, 0), (3, 3), (5, 3)])
        self.check(("even", 3, "up"), [(1, 3), (3, 3), (4, 6)])

    def test_even_at_the_ends(self):
        self.check(("even", 2, "down"), [(1, 0), (2, 2), (3, 2)])
        self.check(("even", 2, "up"), [(1, 2), (2, 2), (3, 4)])
        self.check(("even", 2, "near"), [(0, 0), (1, 2), (2, 2), (3, 4)])
        self.check(("even", 100, "down"), [(99, 0), (100, 100), (199, 100)])
        self.check(("even", 100, "up"), [(1, 100), (100, 100), (101, 200)])
        self.check(("even", 100, "near"), [(49, 0), (50, 100), (149, 100), (150, 200)])

    def test_least(self):
        self.check(("least", 30), [(0, 30), (29, 30), (30, 30), (31, 31), (10 ** 30, 10 ** 30)])
        self.check(("least", 0), [(0, 0), (1, 1)])
        self.check(("least", 1000), [(0, 1000), (999, 1000), (1000, 1000), (1001, 1001)])

    def test_most(self):
        self.check(("most", 30), [(0, 0), (29, 29), (30, 30), (31, 30), (10 ** 30, 30)])
        self.check(("most", 0), [(0, 0), (1, 0), (10 ** 30, 0)])
        self.check(("most", 1000), [(999, 999), (1000, 1000), (1001, 1000)])

    def test_great_prices_are_exact(self):
        great = 10 ** 30
        self.check(("part", 50, "down"), [(great - 1, 5 * 10 ** 29 - 1)])
        self.check(("part", 50, "up"), [(great - 1, 5 * 10 ** 29)])
        self.check(("part", 50, "near"), [(great - 1, 5 * 10 ** 29)])
        self.check(("part", 1, "near"), [(great - 50, 10 ** 28), (great - 51, 10 ** 28 - 1)])
        self.check(("even", 100, "near"), [(great - 50, great), (great - 51, great - 100)])
        self.check(("even", 100, "up"), [(great - 99, great)])
        self.check(("even", 100, "down"), [(great - 1, great - 100)])
        self.check(("even", 7, "up"), [(great, (great // 7 + 1) * 7)])

    def test_every_number_and_rule(self):
        prices = [0, 1, 2, 3, 49, 50, 51, 99, 100, 101, 249, 250, 1000, 10 ** 30 - 1]
        steps = [("part", number, rule) for number in range(201) for rule in ROUNDED]
        steps += [("even", number, rule) for number in range(2, 101) for rule in ROUNDED]
        steps += [("add", number) for number in range(-200, 201)]
        steps += [(word, number) for word in ("least", "most") for number in range(1001)]
        for step in steps:
            for price in prices:
                self.assertEqual(pay((step,), price), told(step, price), (step, price))


class TestRows(unittest.TestCase):
    def test_no_steps(self):
        for price in (0, 1, 45, 10 ** 30):
            self.assertEqual(pay((), price), price)
            self.assertEqual(trail((), price), [price])

    def test_order_matters(self):
        self.assertEqual(pay((("part", 50, "down"), ("add", -10)), 12), 0)
        self.assertEqual(pay((("add", -10), ("part", 50, "down")), 12), 1)

    def test_same_step_twice(self):
        self.assertEqual(trail((("part", 50, "up"), ("part", 50, "up")), 5), [5, 3, 2])

    def test_six_steps(self):
        steps = (("add", -5), ("part", 90, "near"), ("even", 5, "up"), ("least", 50), ("part", 150, "down"),
                 ("most", 70))
        self.assertEqual(trail(steps, 45), [45, 40, 36, 40, 50, 75, 70])
        self.assertEqual(pay(steps, 45), 70)
        self.assertEqual(pay((("part", 200, "up"),) * 6, 10 ** 30), 64 * 10 ** 30)

    def test_goes_up_again_behind_zero(self):
        self.assertEqual(trail((("add", -200), ("add", 3)), 150), [150, 0, 3])

    def test_two_steps_are_as_told(self):
        prices = [0, 1, 7, 44, 45, 46, 50, 99, 100, 333, 999, 1000, 1001, 10 ** 30 - 1, 10 ** 30]
        for steps in product(PLAIN_STEPS + END_STEPS, repeat=2):
            for price in prices:
                reached = told_trail(steps, price)
                self.assertEqual(trail(steps, price), reached, (steps, price))
                self.assertEqual(pay(steps, price), reached[-1], (steps, price))

    def test_final_prices_never_fall(self):
        for steps in list(product(PLAIN_STEPS, repeat=2)) + [()]:
            finals = [pay(steps, price) for price in range(130)]
            self.assertEqual(finals, sorted(finals), steps)

    def test_trail_is_a_new_list(self):
        for steps in ((), (("add", 5), ("part", 50, "up"))):
            first = trail(steps, 45)
            kept = list(first)
            self.assertIs(type(first), list)
            first.append(7)
            first[0] = None
            second = trail(steps, 45)
            self.assertIsNot(first, second)
            self.assertEqual(second, kept)

    def test_repeated_calls(self):
        steps = (("part", 90, "near"), ("add", -5))
        self.assertEqual([pay(steps, 45) for _ in range(3)], [36, 36, 36])
        self.assertEqual([pay(steps, 9), pay(steps, 45), pay(steps, 9)], [3, 36, 3])


class TestWrongSteps(unittest.TestCase):
    def check(self, steps, price, index):
        for function in (pay, trail):
            kept = copy.deepcopy(steps)
            with self.subTest(steps=steps, price=price, function=function.__name__):
                with self.assertRaises(BadSteps) as caught:
                    function(steps, price)
                self.assertEqual(caught.exception.index, index)
                self.assertIs(type(caught.exception.index), type(index))
                self.assertEqual(steps, kept)

    def test_no_tuple_of_at_most_six(self):
        for value in NO_TUPLES:
            self.check(value, 45, None)

    def test_no_step(self):
        for value in NO_STEPS:
            self.check((value,), 45, 0)

    def test_no_step_behind_steps(self):
        good = ("add", 5)
        for value in NO_STEPS:
            self.check((good, value), 45, 1)
            self.check((good, good, value, good), 45, 2)
            self.check((good,) * 5 + (value,), 45, 5)

    def test_first_of_several(self):
        for value in NO_STEPS:
            self.check((("most", 5), value, None, value), 45, 1)
            self.check((("most", 5), ("part", 201, "up"), value), 45, 1)
        self.check((None,) * 6, 45, 0)
        self.check(("add", 5), 45, 0)
        self.check(("part", 90, "up"), 45, 0)

    def test_each_word_with_the_length_of_another(self):
        self.check((("add", 5), ("part", 50, "up"), ("least", 5, "up")), 45, 2)
        self.check((("part", 50),), 45, 0)

    def test_ends_of_ranges_are_steps(self):
        for step in END_STEPS + PLAIN_STEPS:
            with self.subTest(step=step):
                self.assertEqual(pay((step,), 45), told(step, 45))
                self.assertEqual(trail((step,) * 6, 45), told_trail((step,) * 6, 45))

    def test_steps_ahead_of_prices(self):
        for price in NO_PRICES:
            self.check([], price, None)
            self.check((("add", 5),) * 7, price, None)
            self.check((("add", 5), ("add", True)), price, 1)


class TestWrongPrices(unittest.TestCase):
    def test_no_price(self):
        for steps in ((), (("add", 5),), (("most", 5), ("part", 50, "up"))):
            for price in NO_PRICES:
                for function in (pay, trail):
                    kept = copy.deepcopy(price)
                    with self.subTest(price=price, function=function.__name__):
                        with self.assertRaises(BadPrice):
                            function(steps, price)
                        self.assertEqual(price, kept)

    def test_ends_of_the_range(self):
        steps = (("add", 1),)
        self.assertEqual([pay(steps, 0), pay(steps, 10 ** 30)], [1, 10 ** 30 + 1])
        self.assertEqual([trail(steps, 0), trail(steps, 10 ** 30)], [[0, 1], [10 ** 30, 10 ** 30 + 1]])
        for price in (-1, 10 ** 30 + 1):
            with self.assertRaises(BadPrice):
                pay(steps, price)
            with self.assertRaises(BadPrice):
                trail(steps, price)

    def test_nothing_changes_by_an_error(self):
        steps = (("part", 90, "near"),)
        for price in NO_PRICES:
            with self.assertRaises(BadPrice):
                pay(steps, price)
            self.assertEqual(pay(steps, 45), 41)


if __name__ == "__main__":
    unittest.main()
