import unittest
from itertools import combinations, permutations, product
from math import lcm

from tests.samples import (
    END_STEPS, HUNDREDTH, NO_STEPS, NO_TUPLES, PLAIN_STEPS, SMALL_STEPS, TOO_WIDE_ROWS, WIDE_ROWS,
)
from tests.wrong import check_raises
from tillsteps.choices import greatest_saving, needed_orders
from tillsteps.errors import BadSteps, TooMany, TooWide
from tillsteps.far import width
from tillsteps.orders import always_cheapest, cheapest
from tillsteps.steps import pay

TOO_WIDE = {"most": 20000}
TOO_MANY = {"most": 4}


def ordered(steps, order):
    return tuple(steps[index] for index in order)


def orders_of(steps):
    return sorted(permutations(range(len(steps))))


def saving_at(steps, price):
    finals = [pay(ordered(steps, order), price) for order in orders_of(steps)]
    return max(finals) - min(finals)


def told_by_each_price(steps, prices):
    """The needed orders and the greatest saving, if the prices show all; all tuples of orders are tried."""
    orders = orders_of(steps)
    groups = set()
    savings = []
    for price in prices:
        finals = [pay(ordered(steps, order), price) for order in orders]
        groups.add(frozenset(order for order, final in zip(orders, finals) if final == min(finals)))
        savings.append((min(finals) - max(finals), price))
    gap, where = min(savings)
    for count in range(1, len(orders) + 1):
        for chosen in combinations(orders, count):
            if all(group.intersection(chosen) for group in groups):
                return chosen, (-gap, where)


class ChoiceCase(unittest.TestCase):
    def check(self, steps, needed, saving):
        with self.subTest(steps=steps):
            self.assertEqual((needed_orders(steps), greatest_saving(steps)), (needed, saving))
            self.assertEqual({type(needed_orders(steps)), type(greatest_saving(steps))}, {tuple})
            self.assertEqual({type(order) for order in needed_orders(steps)}, {tuple})
            self.assertEqual([type(number) for number in greatest_saving(steps)], [int, int])


class TestExamples(ChoiceCase):
    def test_interface(self):
        steps = (("part", 90, "near"), ("add", -5))
        self.assertEqual(needed_orders(steps), ((0, 1),))
        self.assertEqual(greatest_saving(steps), (1, 6))
        self.assertEqual(needed_orders(()), ((),))
        self.assertEqual(greatest_saving((("add", 2), ("even", 5, "down"))), (3, 3))

    def test_defined_where_listed(self):
        for function in (needed_orders, greatest_saving):
            self.assertEqual(function.__module__, "tillsteps.choices")


class TestChoices(ChoiceCase):
    def test_no_steps(self):
        self.check((), ((),), (0, 0))

    def test_one_step(self):
        for step in PLAIN_STEPS + END_STEPS:
            self.check((step,), ((0,),), (0, 0))

    def test_equal_steps(self):
        for step in PLAIN_STEPS[::3]:
            if width((step,) * 2)[0] <= 20000:
                self.check((step,) * 2, ((0, 1),), (0, 0))
        for step in (("add", -7), ("most", 7), ("even", 3, "near"), ("part", 50, "up")):
            self.check((step,) * 3, ((0, 1, 2),), (0, 0))
            self.check((step,) * 4, ((0, 1, 2, 3),), (0, 0))

    def test_orders_that_never_save(self):
        self.check((("add", 3), ("add", 4)), ((0, 1),), (0, 0))
        self.check((("add", -3), ("add", -4), ("add", -200)), ((0, 1, 2),), (0, 0))
        self.check((("least", 3), ("most", 4)), ((0, 1),), (0, 0))
        self.check((("even", 5, "up"), ("add", 10), ("least", 0), ("part", 100, "up")), ((0, 1, 2, 3),), (0, 0))
        self.check((("part", 10, "down"), ("part", 20, "down"), ("part", 50, "down")), ((0, 1, 2),), (0, 0))

    def test_one_order(self):
        self.check((("part", 50, "down"), ("add", -10)), ((0, 1),), (5, 20))
        self.check((("add", -10), ("part", 50, "down")), ((1, 0),), (5, 20))
        self.check((("least", 5), ("most", 3)), ((0, 1),), (2, 0))
        self.check((("add", -5), ("add", 5)), ((1, 0),), (5, 0))
        self.check((("add", -5), ("add", 5), ("least", 3)), ((1, 2, 0),), (8, 0))

    def test_least_of_several_orders(self):
        self.check((("part", 50, "down"), ("add", -10), ("add", -10)), ((0, 1, 2),), (10, 40))
        self.check((("add", -10), ("part", 50, "down"), ("add", -10)), ((1, 0, 2),), (10, 40))
        self.check((("add", -10), ("add", -10), ("part", 50, "down")), ((2, 0, 1),), (10, 40))
        self.check((("least", 5), ("most", 3), ("most", 3), ("most", 3)), ((0, 1, 2, 3),), (2, 0))

    def test_several_orders(self):
        # By the second order 2 comes to 0 and not to 6, by the first one 9 comes to 6 and not to 12.
        self.check((("even", 4, "near"), ("even", 6, "near")), ((0, 1), (1, 0)), (6, 2))
        self.check((("part", 90, "near"), ("even", 7, "near")), ((0, 1), (1, 0)), (6, 11))
        self.check((("add", 3), ("part", 50, "up"), ("even", 6, "near")), ((0, 1, 2), (0, 2, 1), (2, 0, 1)), (6, 0))
        self.check((("even", 4, "near"), ("even", 6, "near"), ("even", 5, "up")), tuple(orders_of("abc")), (10, 2))
        for steps in permutations((("even", 5, "up"), ("add", -6), ("add", 3))):
            self.check(steps, *told_by_each_price(steps, range(60)))

    def test_not_each_order_alone(self):
        """Rows in which a needed order is nowhere cheapest alone, so that one of several is chosen."""
        found = 0
        for steps in product([("even", 4, "near"), ("even", 6, "near"), ("add", -3), ("part", 50, "up")], repeat=3):
            told = told_by_each_price(steps, range(700))
            self.check(steps, *told)
            alone = set()
            for price in range(700):
                finals = [pay(ordered(steps, order), price) for order in orders_of(steps)]
                if finals.count(min(finals)) == 1:
                    alone.add(orders_of(steps)[finals.index(min(finals))])
            found += len(told[0]) > 1 and not set(told[0]) <= alone
        self.assertGreater(found, 5)

    def test_many_needed_orders(self):
        steps = (("even", 9, "up"), ("part", 40, "up"), ("add", -3), ("even", 20, "up"))
        needed = needed_orders(steps)
        self.assertEqual(len(needed), 17)
        self.assertEqual(sorted(set(needed)), list(needed))
        alone = set()
        for price in range(1500):
            finals = {order: pay(ordered(steps, order), price) for order in orders_of(steps)}
            least = [order for order in finals if finals[order] == min(finals.values())]
            self.assertTrue(set(least) & set(needed), price)
            if len(least) == 1:
                alone.add(least[0])
        # No tuple of fewer orders will do, since so many are cheapest alone, and no price needs another one.
        self.assertTrue(alone <= set(needed))
        self.assertGreaterEqual(len(alone), 16)

    def test_one_order_is_always_cheapest(self):
        for steps in list(product(PLAIN_STEPS, repeat=2))[::13]:
            if lcm(*[width(ordered(steps, order))[0] for order in orders_of(steps)]) <= 20000:
                always = always_cheapest(steps)
                needed = needed_orders(steps)
                self.assertEqual(len(needed) == 1, bool(always), steps)
                if always:
                    self.assertEqual(needed, (always[0],), steps)

    def test_by_each_price(self):
        self.check((("part", 50, "down"), ("add", -10)), *told_by_each_price((("part", 50, "down"), ("add", -10)),
                                                                               range(500)))
        for steps in list(product(SMALL_STEPS, repeat=2))[::3]:
            self.check(steps, *told_by_each_price(steps, range(800)))
        for steps in list(product(SMALL_STEPS, repeat=3))[::97]:
            self.check(steps, *told_by_each_price(steps, range(900)))
        some = [("even", 3, "up"), ("even", 4, "near"), ("add", -7), ("add", 3), ("least", 5), ("most", 9),
                ("part", 50, "down")]
        for steps in list(product(some, repeat=4))[::149]:
            self.check(steps, *told_by_each_price(steps, range(500)))


class TestBoundsThatLieFar(ChoiceCase):
    def test_no_rise(self):
        self.check((HUNDREDTH, ("most", 1000)), ((1, 0),), (990, 10 ** 5))
        self.check((HUNDREDTH, HUNDREDTH, HUNDREDTH, ("most", 1000)), ((0, 3, 1, 2),), (1000, 10 ** 9))
        self.check((HUNDREDTH, HUNDREDTH, ("most", 1000), HUNDREDTH), ((0, 2, 1, 3),), (1000, 10 ** 9))
        self.check((("part", 1, "up"), ("most", 1000)), ((1, 0),), (990, 99901))
        self.check((HUNDREDTH, HUNDREDTH, HUNDREDTH, ("most", 0)), ((0, 1, 2, 3),), (0, 0))

    def test_with_a_rise(self):
        # "least" ahead of the others leaves 10, or 0, of its 1000, and behind them all of it.
        self.check((HUNDREDTH, ("least", 1000)), ((1, 0),), (990, 0))
        self.check((HUNDREDTH, HUNDREDTH, ("least", 1000)), ((2, 0, 1),), (1000, 0))
        # "add" ahead of the others takes 2, or at most 1, off the final price, and behind them up to 200.
        self.check((HUNDREDTH, ("add", -200)), ((0, 1),), (198, 20000))
        self.check((HUNDREDTH, HUNDREDTH, ("add", -200)), ((0, 1, 2),), (200, 2 * 10 ** 6 + 200))

    def test_greatest_saving_far_out(self):
        # 1001 is reached only by "most" and "add" behind the others, which leave nothing of 1001.
        steps = (HUNDREDTH, HUNDREDTH, ("most", 1000), ("add", 1))
        most, where = greatest_saving(steps)
        self.assertEqual((most, where), (1001, 10 ** 7))
        self.assertEqual([saving_at(steps, where - 1), saving_at(steps, where)], [1000, 1001])
        needed = needed_orders(steps)
        for price in (0, 99, 100, 9899, 9999, 10000, 99999, 10 ** 5, 10 ** 7 - 10001, 10 ** 7, 10 ** 9):
            finals = [pay(ordered(steps, order), price) for order in needed]
            self.assertEqual(min(finals), cheapest(steps, price)[0], price)

    def test_bounds_behind_a_whole_width(self):
        for steps in ((("add", -200), ("even", 2, "up"), ("part", 80, "up")),
                      (("part", 80, "near"), ("even", 2, "near"), ("least", 1000)),
                      (("even", 7, "up"), ("least", 1000), ("part", 33, "up")),
                      (("part", 20, "down"), ("part", 80, "near"), ("add", -200)),
                      (("part", 10, "down"), ("part", 75, "down"), ("add", -200))):
            self.check(steps, *told_by_each_price(steps, range(6000)))

    def test_needed_below_the_bounds_only(self):
        """Rows in which some order is cheapest alone only where another one has not settled yet."""
        steps = (("part", 50, "near"), ("even", 4, "near"), ("least", 30))
        self.check(steps, *told_by_each_price(steps, range(1000)))
        behind = told_by_each_price(steps, range(400, 1000))[0]
        self.assertNotEqual(behind, needed_orders(steps))


class TestWidths(unittest.TestCase):
    def test_fine(self):
        for steps, wide in WIDE_ROWS:
            if len(steps) <= 4:
                widths = [width(ordered(steps, order))[0] for order in orders_of(steps)]
                self.assertLessEqual(lcm(*widths), 20000)
                self.assertEqual(max(widths), wide)
                needed = needed_orders(steps)
                most, where = greatest_saving(steps)
                self.assertEqual(saving_at(steps, where), most)
                for price in (0, 1, 777, 10 ** 4, 10 ** 6 + 3, 10 ** 30):
                    self.assertLessEqual(saving_at(steps, price), most)
                    finals = [pay(ordered(steps, order), price) for order in needed]
                    self.assertEqual(min(finals), cheapest(steps, price)[0])

    def test_too_wide(self):
        for steps, _ in TOO_WIDE_ROWS[:3]:
            for function in (needed_orders, greatest_saving):
                check_raises(self, TooWide, TOO_WIDE, function, steps)

    def test_by_all_orders(self):
        # The order that is passed is not too wide, but another one is.
        for steps in ((HUNDREDTH, ("part", 50, "up"), HUNDREDTH), (HUNDREDTH, ("part", 3, "up"), ("even", 3, "up")),
                      (("part", 10, "up"), HUNDREDTH, ("even", 7, "up"))):
            self.assertLessEqual(width(steps)[0], 20000)
            for function in (needed_orders, greatest_saving):
                check_raises(self, TooWide, TOO_WIDE, function, steps)


class TestWrongValues(unittest.TestCase):
    def check(self, error, fields, steps):
        check_raises(self, error, fields, needed_orders, steps)
        check_raises(self, error, fields, greatest_saving, steps)

    def test_no_steps(self):
        for value in NO_TUPLES:
            self.check(BadSteps, {"index": None}, value)
        for value in NO_STEPS:
            self.check(BadSteps, {"index": 0}, (value,))
            self.check(BadSteps, {"index": 3}, (("add", 5),) * 3 + (value,))

    def test_too_many(self):
        for count in (5, 6):
            self.check(TooMany, TOO_MANY, (("add", 5),) * count)
        self.assertEqual(needed_orders((("add", 5),) * 4), ((0, 1, 2, 3),))
        self.assertEqual(greatest_saving((("add", 5),) * 4), (0, 0))

    def test_first_of_several(self):
        for value in NO_STEPS[::5]:
            self.check(BadSteps, {"index": 4}, (HUNDREDTH,) * 4 + (value, None))
        self.check(BadSteps, {"index": None}, (HUNDREDTH,) * 7)
        for count in (5, 6):
            self.check(TooMany, TOO_MANY, (HUNDREDTH,) * count)


class TestGeneral(unittest.TestCase):
    def test_repeated_calls(self):
        steps = (("part", 90, "near"), ("add", -5))
        for _ in range(3):
            with self.assertRaises(TooMany):
                needed_orders(steps * 3)
            self.assertEqual([needed_orders(steps), greatest_saving(steps)], [((0, 1),), (1, 6)])


if __name__ == "__main__":
    unittest.main()
