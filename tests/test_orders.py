import unittest
from itertools import permutations, product
from math import lcm

from tests.samples import (
    END_STEPS, HUNDREDTH, NO_PRICES, NO_STEPS, NO_TUPLES, PLAIN_STEPS, SMALL_STEPS, TOO_WIDE_ROWS, WIDE_ROWS,
)
from tests.wrong import check_raises
from tillsteps.errors import BadPrice, BadSteps, TooMany, TooWide
from tillsteps.far import width
from tillsteps.orders import always_cheapest, cheapest, lots
from tillsteps.parting import same
from tillsteps.steps import pay

TOO_WIDE = {"most": 20000}
TOO_MANY = {"most": 4}
ALL_OF_TWO = [(0, 1), (1, 0)]


def ordered(steps, order):
    return tuple(steps[index] for index in order)


def orders_of(steps):
    return sorted(permutations(range(len(steps))))


def told_by_each_price(steps, prices):
    """The lots and the orders that are always cheapest, if the prices show all."""
    orders = orders_of(steps)
    table = [[pay(ordered(steps, order), price) for price in prices] for order in orders]
    least = [min(column) for column in zip(*table)]
    grouped = []
    for order, finals in zip(orders, table):
        lot = next((lot for lot, shared in grouped if shared == finals), None)
        if lot is None:
            grouped.append(([order], finals))
        else:
            lot.append(order)
    return [lot for lot, _ in grouped], [order for order, finals in zip(orders, table) if finals == least]


def told_lots(steps):
    """The lots, by comparing each order with the first one of each lot."""
    grouped = []
    for order in orders_of(steps):
        lot = next((lot for lot in grouped if same(ordered(steps, lot[0]), ordered(steps, order))), None)
        if lot is None:
            grouped.append([order])
        else:
            lot.append(order)
    return grouped


class TestExamples(unittest.TestCase):
    def test_interface(self):
        some = (("part", 50, "down"), ("add", -10), ("add", 4))
        self.assertEqual(lots((("add", 3), ("add", 4))), [[(0, 1), (1, 0)]])
        self.assertEqual(cheapest(some, 100), (42, (2, 0, 1)))
        self.assertEqual(always_cheapest(some[:2]), [(0, 1)])
        self.assertEqual(lots(some[:2]), [[(0, 1)], [(1, 0)]])

    def test_defined_where_listed(self):
        for function in (lots, cheapest, always_cheapest):
            self.assertEqual(function.__module__, "tillsteps.orders")


class TestLots(unittest.TestCase):
    def check(self, steps, told):
        with self.subTest(steps=steps):
            found = lots(steps)
            self.assertEqual(found, told)
            self.assertEqual({type(lot) for lot in found} | {type(found)}, {list})
            self.assertEqual({type(order) for lot in found for order in lot}, {tuple})

    def test_no_steps(self):
        self.check((), [[()]])

    def test_one_step(self):
        for step in PLAIN_STEPS + END_STEPS:
            self.check((step,), [[(0,)]])

    def test_equal_steps(self):
        for step in PLAIN_STEPS[::3]:
            if width((step,) * 2)[0] <= 20000:
                self.check((step,) * 2, [ALL_OF_TWO])
        self.check((("part", 90, "up"),) * 3, [orders_of("abc")])
        self.check((("add", -7),) * 4, [orders_of("abcd")])
        self.check((("most", 7),) * 4, [orders_of("abcd")])
        step, other = ("part", 50, "down"), ("add", -10)
        self.check((step, other, other), [[(0, 1, 2), (0, 2, 1)], [(1, 0, 2), (2, 0, 1)], [(1, 2, 0), (2, 1, 0)]])

    def test_two_steps(self):
        self.check((("add", 3), ("add", -4)), [[(0, 1)], [(1, 0)]])
        self.check((("add", -3), ("add", -4)), [ALL_OF_TWO])
        self.check((("least", 3), ("most", 4)), [ALL_OF_TWO])
        self.check((("least", 4), ("most", 4)), [ALL_OF_TWO])
        self.check((("least", 5), ("most", 4)), [[(0, 1)], [(1, 0)]])
        self.check((("even", 5, "down"), ("most", 10)), [ALL_OF_TWO])
        self.check((("even", 5, "down"), ("most", 11)), [[(0, 1)], [(1, 0)]])
        self.check((("part", 50, "down"), HUNDREDTH), [ALL_OF_TWO])
        self.check((("part", 50, "up"), HUNDREDTH), [[(0, 1)], [(1, 0)]])

    def test_four_steps(self):
        steps = (("least", 5), ("add", 0), ("most", 9), ("part", 100, "up"))
        self.check(steps, [orders_of(steps)])
        found = lots((("part", 50, "down"), ("add", -10), ("even", 5, "up"), ("least", 7)))
        self.assertEqual(sorted(order for lot in found for order in lot), orders_of("abcd"))
        self.assertEqual([sorted(lot) for lot in found], sorted(found))

    def test_by_each_price(self):
        for steps in list(product(SMALL_STEPS, repeat=2))[::3]:
            self.check(steps, told_by_each_price(steps, range(800))[0])
        for steps in list(product(SMALL_STEPS, repeat=3))[::131]:
            self.check(steps, told_by_each_price(steps, range(900))[0])

    def test_by_pairs(self):
        some = [("part", 33, "down"), ("part", 150, "near"), ("part", 0, "up"), ("add", -7), ("add", 13),
                ("even", 10, "up"), ("least", 30), ("least", 1000), ("most", 45), ("most", 1000)]
        for steps in list(product(some, repeat=3))[::29] + list(product(some, repeat=4))[::1117]:
            if lcm(*[width(ordered(steps, order))[0] for order in orders_of(steps)]) <= 20000:
                self.check(steps, told_lots(steps))

    def test_bounds_that_lie_far(self):
        self.check((HUNDREDTH, HUNDREDTH, HUNDREDTH, ("most", 0)), [orders_of("abcd")])
        # With fewer than two of the others ahead of "most" nothing is left of 1000.
        steps = (HUNDREDTH, HUNDREDTH, HUNDREDTH, ("most", 1000))
        behind = {times: [order for order in orders_of(steps) if order.index(3) == times] for times in range(4)}
        self.check(steps, [behind[3], behind[2], sorted(behind[0] + behind[1])])
        # Nothing is left of 9 by any of the others, so that only the orders with "most" behind all cost something.
        steps = (HUNDREDTH, HUNDREDTH, ("part", 10, "down"), ("most", 9))
        last = [order for order in orders_of(steps) if order[3] == 3]
        self.check(steps, [last, [order for order in orders_of(steps) if order[3] != 3]])


class TestBoundsBehindAWholeWidth(unittest.TestCase):
    """Orders that part, or are cheaper in turn, only behind the bounds of all, and these lie beyond a width."""

    def test_by_each_price(self):
        for steps in ((("add", -200), ("even", 2, "up"), ("part", 80, "up")),
                      (("part", 80, "near"), ("even", 2, "near"), ("least", 1000)),
                      (("even", 7, "up"), ("least", 1000), ("part", 33, "up")),
                      (("part", 20, "down"), ("part", 80, "near"), ("add", -200)),
                      (("part", 10, "down"), ("part", 75, "down"), ("add", -200)),
                      (("part", 90, "near"), ("part", 10, "near"), ("add", -200))):
            with self.subTest(steps=steps):
                told = told_by_each_price(steps, range(6000))
                self.assertEqual((lots(steps), always_cheapest(steps)), told)


class TestCheapest(unittest.TestCase):
    def check(self, steps, price, told):
        with self.subTest(steps=steps, price=price):
            self.assertEqual(cheapest(steps, price), told)
            self.assertIs(type(cheapest(steps, price)), tuple)

    def test_no_steps(self):
        for price in (0, 45, 10 ** 30):
            self.check((), price, (price, ()))

    def test_one_step(self):
        self.check((("add", 5),), 45, (50, (0,)))

    def test_least_order_of_several(self):
        self.check((("add", 5), ("add", 7)), 45, (57, (0, 1)))
        self.check((("part", 50, "down"), ("add", -10)), 11, (0, (0, 1)))
        self.check((("add", -10), ("part", 50, "down")), 11, (0, (0, 1)))
        self.check((("add", -10), ("part", 50, "down")), 12, (0, (1, 0)))
        self.check((("add", 0),) * 4, 45, (45, (0, 1, 2, 3)))
        self.check((("add", 1), ("part", 50, "down"), ("part", 50, "down")), 4, (1, (0, 1, 2)))
        self.check((("add", 1), ("part", 50, "down"), ("part", 50, "down")), 3, (1, (0, 1, 2)))
        self.check((("add", 1), ("part", 50, "down"), ("part", 50, "down")), 2, (0, (0, 1, 2)))

    def test_by_all_orders(self):
        some = [("part", 90, "near"), ("part", 150, "up"), ("add", -7), ("add", 13), ("even", 10, "down"),
                ("least", 30), ("most", 45)]
        for steps in list(product(some, repeat=3))[::5] + list(product(some, repeat=4))[::61]:
            for price in (0, 1, 7, 29, 30, 31, 45, 46, 50, 100, 10 ** 30 - 1, 10 ** 30):
                told = min((pay(ordered(steps, order), price), order) for order in orders_of(steps))
                self.check(steps, price, told)

    def test_any_width(self):
        steps = (HUNDREDTH,) * 4
        self.assertGreater(width(steps)[0], 20000)
        self.check(steps, 10 ** 30, (10 ** 22, (0, 1, 2, 3)))


class TestAlwaysCheapest(unittest.TestCase):
    def check(self, steps, told):
        with self.subTest(steps=steps):
            self.assertEqual(always_cheapest(steps), told)
            self.assertIs(type(always_cheapest(steps)), list)

    def test_no_steps(self):
        self.check((), [()])

    def test_one_step(self):
        for step in PLAIN_STEPS + END_STEPS:
            self.check((step,), [(0,)])

    def test_none(self):
        self.check((("part", 90, "near"), ("even", 7, "near")), [])
        self.check((("even", 4, "near"), ("even", 6, "near")), [])

    def test_one_order(self):
        self.check((("part", 50, "down"), ("add", -10)), [(0, 1)])
        self.check((("add", -10), ("part", 50, "down")), [(1, 0)])
        self.check((("least", 5), ("most", 3)), [(0, 1)])
        self.check((("part", 150, "up"), ("add", 10)), [(0, 1)])

    def test_several_orders(self):
        self.check((("add", 3), ("add", 4)), ALL_OF_TWO)
        self.check((("part", 50, "down"), ("add", -10), ("add", -10)), [(0, 1, 2), (0, 2, 1)])
        self.check((("least", 5), ("most", 3), ("most", 3)), [(0, 1, 2), (0, 2, 1), (1, 0, 2), (2, 0, 1)])
        self.check((("most", 3),) * 4, orders_of("abcd"))

    def test_dearer_only_at_the_lower_bound(self):
        self.check((("add", -5), ("add", 5)), [(1, 0)])
        self.check((("least", 20), ("add", 5)), [(1, 0)])

    def test_dearer_only_far_out(self):
        # All orders cost nothing below 10 ** 6, and those with "most" behind the others cost 1 from there on.
        self.check((HUNDREDTH, HUNDREDTH, HUNDREDTH, ("most", 1)),
                   [order for order in orders_of("abcd") if order[3] != 3])
        self.check((HUNDREDTH, ("part", 10, "up"), ("most", 1000)), [(2, 1, 0)])

    def test_by_each_price(self):
        for steps in list(product(SMALL_STEPS, repeat=2))[::3]:
            self.check(steps, told_by_each_price(steps, range(800))[1])
        for steps in list(product(SMALL_STEPS, repeat=3))[1::131]:
            self.check(steps, told_by_each_price(steps, range(900))[1])


class TestWidths(unittest.TestCase):
    def test_fine(self):
        for steps, wide in WIDE_ROWS:
            if len(steps) <= 4:
                widths = [width(ordered(steps, order))[0] for order in orders_of(steps)]
                self.assertLessEqual(lcm(*widths), 20000)
                self.assertEqual(max(widths), wide)
                lots(steps)
                always_cheapest(steps)

    def test_too_wide(self):
        for steps, _ in TOO_WIDE_ROWS[:3]:
            for function in (lots, always_cheapest):
                check_raises(self, TooWide, TOO_WIDE, function, steps)

    def test_by_all_orders(self):
        # The order that is passed is not too wide, but another one is.
        for steps in ((HUNDREDTH, ("part", 50, "up"), HUNDREDTH), (HUNDREDTH, ("part", 3, "up"), ("even", 3, "up")),
                      (("part", 10, "up"), HUNDREDTH, ("even", 7, "up"))):
            self.assertLessEqual(width(steps)[0], 20000)
            for function in (lots, always_cheapest):
                check_raises(self, TooWide, TOO_WIDE, function, steps)
            self.assertEqual(cheapest(steps, 0), (0, (0, 1, 2)))


class TestWrongValues(unittest.TestCase):
    def check(self, error, fields, steps, price):
        check_raises(self, error, fields, lots, steps)
        check_raises(self, error, fields, always_cheapest, steps)
        check_raises(self, error, fields, cheapest, steps, price)

    def test_no_steps(self):
        for value in NO_TUPLES:
            self.check(BadSteps, {"index": None}, value, 45)
        for value in NO_STEPS:
            self.check(BadSteps, {"index": 0}, (value,), 45)
            self.check(BadSteps, {"index": 3}, (("add", 5),) * 3 + (value,), 45)

    def test_too_many(self):
        for count in (5, 6):
            self.check(TooMany, TOO_MANY, (("add", 5),) * count, 45)
            self.check(TooMany, TOO_MANY, (HUNDREDTH,) * count, 45)
        steps = (("add", 5),) * 4
        self.assertEqual([lots(steps), always_cheapest(steps)], [[orders_of(steps)], orders_of(steps)])
        self.assertEqual(cheapest(steps, 45), (65, (0, 1, 2, 3)))

    def test_no_price(self):
        for price in NO_PRICES:
            for steps in ((), (("add", 5),), (HUNDREDTH,) * 4):
                check_raises(self, BadPrice, {}, cheapest, steps, price)

    def test_first_of_several(self):
        for price in NO_PRICES:
            check_raises(self, TooMany, TOO_MANY, cheapest, (("add", 5),) * 5, price)
            check_raises(self, BadSteps, {"index": 5}, cheapest, (("add", 5),) * 5 + (None,), price)
            check_raises(self, BadSteps, {"index": None}, cheapest, (("add", 5),) * 7, price)
        self.check(BadSteps, {"index": 4}, (HUNDREDTH,) * 4 + (None,), 45)
        self.check(BadSteps, {"index": None}, (HUNDREDTH,) * 7, 45)


class TestGeneral(unittest.TestCase):
    def test_repeated_calls(self):
        steps = (("part", 50, "down"), ("add", -10))
        for _ in range(3):
            with self.assertRaises(TooMany):
                lots(steps * 3)
            self.assertEqual(lots(steps), [[(0, 1)], [(1, 0)]])
            self.assertEqual(cheapest(steps, 12), (0, (0, 1)))
            self.assertEqual(always_cheapest(steps), [(0, 1)])

    def test_new_lists(self):
        steps = (("add", 3), ("add", 4))
        first = lots(steps)
        first[0].append(7)
        first.append(None)
        self.assertEqual(lots(steps), [ALL_OF_TWO])
        first = always_cheapest(steps)
        first.append(None)
        self.assertEqual(always_cheapest(steps), ALL_OF_TWO)


if __name__ == "__main__":
    unittest.main()
