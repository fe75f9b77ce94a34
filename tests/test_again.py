import unittest
from itertools import product

from tests.samples import (
    END_STEPS, FAR_FLAT, HUNDREDTH, NO_PRICES, NO_STEPS, NO_TUPLES, PLAIN_STEPS, SMALL_ROWS, SMALL_STEPS,
    TOO_WIDE_ROWS, WIDE_ROWS,
)
from tests.wrong import check_raises
from tillsteps.again import ends_at, rounds, settles
from tillsteps.errors import BadPrice, BadSteps, TooWide
from tillsteps.far import slope, width
from tillsteps.steps import pay

TOO_WIDE = {"most": 20000}
GREAT = 10 ** 30
HALF = (("part", 50, "down"), ("add", 10))
LESS = (("add", -7),)
MORE = (("add", 3),)


def goes_on(steps, price):
    """Whether a price that is greater by the width has a final price that is greater by the rise."""
    wide, rise = width(steps)
    return pay(steps, price + wide) == pay(steps, price) + rise


def told_by_each_price(steps, many):
    """From where on all goes round, if prices below many show all."""
    return max([price + 1 for price in range(many) if not goes_on(steps, price)], default=0)


def told_by_going(steps, price, limit):
    """Where the price ends and after how many rounds; None for both if it comes to the limit."""
    count = 0
    while pay(steps, price) != price:
        price = pay(steps, price)
        count += 1
        if price > limit:
            return None, None
    return price, count


class TestExamples(unittest.TestCase):
    def test_interface(self):
        self.assertEqual(settles(HALF), 0)
        self.assertEqual(settles(LESS), 7)
        self.assertEqual(settles((("least", 30), ("even", 10, "up"))), 21)
        self.assertEqual([ends_at(HALF, 100), rounds(HALF, 100), ends_at(HALF, 0)], [20, 7, 19])
        self.assertEqual([ends_at(LESS, GREAT), rounds(LESS, GREAT)], [0, 142857142857142857142857142858])
        self.assertIsNone(ends_at(MORE, 5))
        self.assertIsNone(rounds(MORE, 5))
        self.assertEqual(rounds((), 5), 0)

    def test_defined_where_listed(self):
        for function in (settles, ends_at, rounds):
            self.assertEqual(function.__module__, "tillsteps.again")


class TestSettles(unittest.TestCase):
    def check(self, steps, told):
        with self.subTest(steps=steps):
            self.assertEqual(settles(steps), told)
            self.assertIs(type(settles(steps)), int)
            for price in list(range(told, told + 300)) + [told + 12345, GREAT - 30000]:
                self.assertTrue(goes_on(steps, price))
            if told > 0:
                self.assertFalse(goes_on(steps, told - 1))

    def test_at_once(self):
        self.check((), 0)
        for step in (("part", 90, "up"), ("part", 1, "near"), ("part", 200, "down"), ("add", 0), ("add", 200),
                     ("even", 2, "up"), ("even", 100, "near"), ("even", 7, "down"), ("least", 0)):
            self.check((step,), 0)
        self.check((("add", 20), ("add", -20)), 0)
        self.check((("add", 20), ("least", 20)), 0)
        self.check((("even", 10, "up"), ("part", 50, "near"), ("add", 7)), 0)

    def test_bounds_below(self):
        self.check((("add", -1),), 1)
        self.check((("add", -200),), 200)
        self.check((("add", -200),) * 6, 1200)
        self.check((("least", 1),), 1)
        self.check((("least", 1000),), 1000)
        self.check((("add", -7), ("add", 7)), 7)
        self.check((("least", 30), ("least", 20)), 30)
        self.check((("add", 20), ("least", 30)), 10)
        self.check((("add", -20), ("least", 30)), 50)

    def test_bound_within_a_run(self):
        self.check((("part", 50, "down"), ("least", 10)), 20)
        self.check((("part", 50, "up"), ("least", 10)), 19)
        self.check((("part", 50, "up"), ("add", -1)), 1)
        self.check((("part", 50, "down"), ("add", -1)), 2)
        self.check((HUNDREDTH, ("least", 3)), 300)
        self.check((HUNDREDTH, HUNDREDTH, ("least", 1000)), 10 ** 7)
        self.check((("even", 10, "near"), ("least", 30)), 25)
        self.check((("even", 10, "near"), ("least", 31)), 35)
        self.check((("least", 300), ("even", 100, "up")), 201)

    def test_no_rise(self):
        self.check((("most", 0),), 0)
        self.check((("most", 1),), 1)
        self.check((("most", 1000),), 1000)
        self.check((("part", 0, "up"),), 0)
        self.check((("part", 0, "up"), ("add", 5)), 0)
        self.check((("part", 200, "up"), ("most", 9)), 5)
        self.check((("most", 9), ("part", 50, "down")), 8)
        self.check((("most", 20), ("least", 30)), 0)
        self.check((("least", 30), ("most", 20)), 0)
        self.check((("least", 10), ("most", 20)), 20)
        self.check((("add", -10), ("most", 20)), 30)
        self.check((("even", 10, "up"), ("most", 45)), 41)
        self.check((HUNDREDTH, ("most", 1000)), 10 ** 5)
        self.check(FAR_FLAT, 10 ** 13)
        self.check((HUNDREDTH,) * 4 + (("add", -200), ("most", 1000)), 12 * 10 ** 10)

    def test_greatest_width(self):
        for steps, _ in WIDE_ROWS:
            self.check(steps, 0)
        self.check((("part", 1, "up"), ("part", 1, "near"), ("even", 2, "down"), ("add", -9)), 94901)

    def test_by_each_price(self):
        for steps in SMALL_ROWS:
            self.assertEqual(settles(steps), told_by_each_price(steps, 150), steps)
        for steps in list(product(SMALL_STEPS, repeat=3))[::17]:
            self.assertEqual(settles(steps), told_by_each_price(steps, 150), steps)
        for steps in list(product(PLAIN_STEPS + END_STEPS, repeat=2))[::19]:
            if ("part", 1, "up") not in steps and width(steps)[0] <= 20000:
                self.assertEqual(settles(steps), told_by_each_price(steps, 3500), steps)


class RoundCase(unittest.TestCase):
    def check(self, steps, price, end, count):
        with self.subTest(steps=steps, price=price):
            self.assertEqual((ends_at(steps, price), rounds(steps, price)), (end, count))
            kind = type(None) if end is None else int
            self.assertEqual((type(ends_at(steps, price)), type(rounds(steps, price))), (kind, kind))


class TestRounds(RoundCase):
    def test_stays_at_once(self):
        for price in (0, 1, 5, GREAT - 1, GREAT):
            self.check((), price, price, 0)
            self.check((("add", 0), ("part", 100, "near")), price, price, 0)
            self.check((("add", 50), ("add", -50)), price, price, 0)
        self.check(LESS, 0, 0, 0)
        self.check((("even", 10, "near"),), 40, 40, 0)
        self.check((("even", 10, "near"),), GREAT, GREAT, 0)
        self.check(HALF, 19, 19, 0)
        self.check(HALF, 20, 20, 0)
        self.check((("least", 30),), 30, 30, 0)
        self.check((("least", 30),), GREAT, GREAT, 0)
        self.check((("most", 30),), 30, 30, 0)
        self.check((("part", 150, "down"),), 1, 1, 0)

    def test_falls(self):
        self.check(HALF, 100, 20, 7)
        self.check(HALF, 21, 20, 1)
        self.check((("part", 50, "down"),), 1, 0, 1)
        self.check((("part", 50, "down"),), 1023, 0, 10)
        self.check((("part", 50, "down"),), 1024, 0, 11)
        self.check((("part", 50, "up"),), 1024, 1, 10)
        self.check((("part", 50, "up"),), 1025, 1, 11)
        self.check(LESS, 1, 0, 1)
        self.check(LESS, 7, 0, 1)
        self.check(LESS, 8, 0, 2)
        self.check((("even", 10, "near"),), 44, 40, 1)
        self.check((("most", 30),), 31, 30, 1)
        self.check((("most", 30),), GREAT, 30, 1)
        self.check((("part", 0, "up"), ("add", 5)), GREAT, 5, 1)
        self.check((("add", -1), ("most", 1000)), GREAT, 0, 1001)
        self.check((("part", 150, "down"), ("add", -10)), 18, 0, 6)

    def test_rises_to_a_price_that_stays(self):
        self.check(HALF, 0, 19, 5)
        self.check((("least", 30),), 0, 30, 1)
        self.check((("least", 30),), 29, 30, 1)
        self.check((("even", 10, "near"),), 45, 50, 1)
        self.check((("even", 10, "up"),), 1, 10, 1)
        self.check((("add", 3), ("most", 1000)), 0, 1000, 334)
        self.check((("part", 99, "up"), ("add", 2)), 0, 200, 150)
        # The step ahead brings the price over a whole width before it stays.
        self.check((("least", 500), ("even", 7, "up")), 3, 504, 1)
        self.check((("least", 1000), ("part", 50, "down"), ("part", 200, "down")), 0, 1000, 1)

    def test_stays_behind_a_rise_that_is_greater_than_the_width(self):
        steep = (("part", 150, "down"), ("even", 7, "down"))
        for price in range(200):
            self.check(steep, price, *told_by_going(steep, price, 10 ** 6))
        self.check((("part", 150, "down"),), 0, 0, 0)
        self.check((("part", 200, "up"), ("add", -100)), 100, 100, 0)
        self.check((("part", 200, "up"), ("add", -100)), 101, None, None)
        self.check((("part", 200, "up"), ("add", -100)), 99, 0, 7)

    def test_grows_for_ever(self):
        for price in (0, 5, 10 ** 6, GREAT):
            self.check(MORE, price, None, None)
            self.check((("add", 1),), price, None, None)
            self.check((("even", 10, "up"), ("add", 1)), price, None, None)
        for price in (1, 5, GREAT):
            self.check((("part", 200, "up"),), price, None, None)
            self.check((("part", 101, "up"),), price, None, None)
        self.check((("part", 101, "down"),), 99, 99, 0)
        self.check((("part", 101, "down"),), 100, None, None)
        self.check((("least", 1), ("part", 200, "up")), 0, None, None)

    def test_by_going_for_small_rows(self):
        for steps in SMALL_ROWS:
            for price in (0, 1, 2, 3, 4, 5, 8, 13, 29, 50, 99, 100, 101):
                self.check(steps, price, *told_by_going(steps, price, 600))

    def test_by_going_for_three_steps(self):
        for steps in list(product(SMALL_STEPS, repeat=3))[::19]:
            for price in (0, 1, 6, 7, 20, 111, 200):
                self.check(steps, price, *told_by_going(steps, price, 1200))


class TestGreatPrices(RoundCase):
    def test_falls_by_as_much_each_time(self):
        self.check(LESS, GREAT, 0, -(-GREAT // 7))
        self.check(LESS, GREAT - 1, 0, -(-(GREAT - 1) // 7))
        self.check((("add", -1),), GREAT, 0, GREAT)
        self.check((("add", -200),) * 6, GREAT, 0, -(-GREAT // 1200))
        self.check((("add", -200), ("least", 30)), GREAT, 30, GREAT // 200)
        self.check((("add", -200), ("least", 1000)), GREAT, 1000, (GREAT - 1000) // 200)
        self.check((("add", -9), ("add", 6)), GREAT, 6, -(-(GREAT - 6) // 3))

    def test_falls_in_cycles(self):
        # The first round takes off 1, each further one 10, and the last one what is left.
        self.check((("even", 10, "down"), ("add", -1)), GREAT, 0, GREAT // 10 + 1)
        # The first round takes off 1, two further ones 4 each time, and the last two 2 and 1.
        steps = (("part", 125, "down"), ("part", 80, "down"), ("add", -1))
        for price in (4, 8, 400, 10 ** 15, GREAT):
            self.check(steps, price, 0, price // 2 + 1)
            self.check(steps, price - 1, 0, price // 2)

    def test_some_widths_more_fall_likewise(self):
        """By small prices it is seen how many rounds some widths more take; so many they take each time."""
        for steps in ((("even", 10, "near"), ("add", -7)), (("add", -7), ("even", 3, "near"), ("even", 4, "down")),
                      (("part", 50, "up"), ("part", 200, "up"), ("add", -3)), (("add", -9), ("even", 7, "near")),
                      (("part", 125, "down"), ("part", 80, "down"), ("add", -1)),
                      (("part", 40, "near"), ("add", -3), ("part", 125, "near"), ("part", 200, "up")),
                      (("even", 6, "down"), ("add", -1), ("even", 4, "near"), ("add", -1)),
                      (("part", 80, "down"), ("add", -9), ("part", 125, "down"), ("even", 30, "down")),
                      (("add", -150), ("even", 100, "near"), ("add", 49), ("least", 300))):
            self.assertEqual(slope(steps), (1, 1))
            more = 12 * width(steps)[0]
            for price in (2000, 2003, 2011):
                told = [told_by_going(steps, price + times * more, 10 ** 9) for times in (0, 1, 2)]
                self.assertEqual({end for end, _ in told}, {told[0][0]}, (steps, price))
                self.assertEqual(told[1][1] - told[0][1], told[2][1] - told[1][1], (steps, price))
                times = (GREAT - price) // more
                count = told[0][1] + times * (told[1][1] - told[0][1])
                self.check(steps, price + times * more, told[0][0], count)

    def test_next_round_is_one_round_less(self):
        some = [("part", 90, "up"), ("part", 50, "down"), ("part", 200, "up"), ("part", 110, "near"), ("add", -7),
                ("add", 13), ("even", 10, "near"), ("even", 7, "down"), ("least", 30), ("most", 1000)]
        for steps in list(product(some, repeat=3))[::3]:
            behind = pay(steps, GREAT)
            if behind <= GREAT and width(steps)[0] <= 20000:
                end, count = ends_at(steps, GREAT), rounds(steps, GREAT)
                less = 0 if behind == GREAT else 1
                self.assertEqual(ends_at(steps, behind), end, steps)
                self.assertEqual(rounds(steps, behind), None if count is None else count - less, steps)
                self.assertTrue(end is None or end > GREAT or pay(steps, end) == end, steps)

    def test_falls_by_parts(self):
        self.check((("part", 50, "down"),), GREAT, 0, 100)
        self.check((("part", 1, "up"),), GREAT, 1, 15)
        self.check(HALF, GREAT, 20, 100)
        self.check(FAR_FLAT, GREAT, 0, 2)
        for steps in ((("part", 99, "near"),), (("part", 99, "up"), ("add", -3)), (("part", 98, "down"), ("add", 77))):
            self.check(steps, GREAT, *told_by_going(steps, GREAT, 10 ** 31))

    def test_ends_beyond_what_can_be_passed(self):
        self.check((("even", 7, "up"),), GREAT, GREAT + 6, 1)
        self.check((("even", 97, "up"),), GREAT, -(-GREAT // 97) * 97, 1)


class TestWidths(unittest.TestCase):
    def test_fine(self):
        for steps, _ in WIDE_ROWS:
            settles(steps)
            for price in (0, 12345):
                end = ends_at(steps, price)
                self.assertTrue(end is None or pay(steps, end) == end)

    def test_too_wide(self):
        for steps, _ in TOO_WIDE_ROWS:
            check_raises(self, TooWide, TOO_WIDE, settles, steps)
            for price in (0, 5, GREAT):
                check_raises(self, TooWide, TOO_WIDE, ends_at, steps, price)
                check_raises(self, TooWide, TOO_WIDE, rounds, steps, price)


class TestWrongValues(unittest.TestCase):
    def check(self, error, fields, steps, price):
        check_raises(self, error, fields, ends_at, steps, price)
        check_raises(self, error, fields, rounds, steps, price)

    def test_no_steps(self):
        for value in NO_TUPLES:
            check_raises(self, BadSteps, {"index": None}, settles, value)
            self.check(BadSteps, {"index": None}, value, 45)
        for value in NO_STEPS:
            check_raises(self, BadSteps, {"index": 0}, settles, (value,))
            check_raises(self, BadSteps, {"index": 3}, settles, (HUNDREDTH,) * 3 + (value, None))
            self.check(BadSteps, {"index": 0}, (value,), 45)
            self.check(BadSteps, {"index": 3}, (("add", 5),) * 3 + (value, None), 45)

    def test_no_price(self):
        for price in NO_PRICES:
            for steps in ((), HALF, LESS, FAR_FLAT):
                self.check(BadPrice, {}, steps, price)

    def test_first_of_several(self):
        for price in NO_PRICES:
            for steps, _ in TOO_WIDE_ROWS:
                self.check(BadPrice, {}, steps, price)
            self.check(BadSteps, {"index": 5}, (HUNDREDTH,) * 5 + (None,), price)
            self.check(BadSteps, {"index": None}, (HUNDREDTH,) * 7, price)
        check_raises(self, BadSteps, {"index": 5}, settles, (HUNDREDTH,) * 5 + (None,))

    def test_ends_of_the_range(self):
        for price in (0, GREAT):
            self.assertEqual([ends_at((), price), rounds((), price)], [price, 0])
        for price in (-1, GREAT + 1):
            self.check(BadPrice, {}, (), price)


class TestGeneral(unittest.TestCase):
    def test_repeated_calls(self):
        for _ in range(3):
            with self.assertRaises(TooWide):
                settles((HUNDREDTH,) * 6)
            with self.assertRaises(BadPrice):
                rounds(HALF, -1)
            self.assertEqual([settles(LESS), ends_at(HALF, 100), rounds(LESS, GREAT)], [7, 20, GREAT // 7 + 1])


if __name__ == "__main__":
    unittest.main()
