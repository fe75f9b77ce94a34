import unittest
from fractions import Fraction
from itertools import permutations, product
from math import lcm

from tests.samples import (
    FAR_FLAT, HUNDREDTH, NO_STEPS, NO_TUPLES, SMALL_ROWS, SMALL_STEPS, TOO_WIDE_ROWS, WIDE_ROWS,
)
from tests.wrong import check_raises
from tillsteps.errors import BadSteps, TooWide
from tillsteps.far import slope, width
from tillsteps.parting import apart, needless, parts, same
from tillsteps.steps import pay

PAIRED = (same, parts, apart)
TOO_WIDE = {"most": 20000}


def finals(steps, prices):
    return [pay(steps, price) for price in prices]


def without(steps, index):
    return steps[:index] + steps[index + 1:]


def turned(bounds):
    """What apart tells the other way round."""
    least, greatest = bounds
    return None if greatest is None else -greatest, None if least is None else -least


def told_by_each_price(one, other, prices):
    """The parting and the bounds, if the prices show all."""
    gaps = [pay(one, price) - pay(other, price) for price in prices]
    parting = next((price for price, gap in zip(prices, gaps) if gap != 0), None)
    growth = Fraction(*slope(one)) - Fraction(*slope(other))
    return parting, (None if growth < 0 else min(gaps), None if growth > 0 else max(gaps))


class PairCase(unittest.TestCase):
    def check(self, one, other, parting, bounds):
        for first, second, told in ((one, other, bounds), (other, one, turned(bounds))):
            with self.subTest(one=first, other=second):
                self.assertEqual(parts(first, second), parting)
                self.assertIs(same(first, second), parting is None)
                self.assertEqual(apart(first, second), told)
                self.assertIs(type(apart(first, second)), tuple)

    def check_same(self, one, other):
        self.check(one, other, None, (0, 0))


class TestExamples(unittest.TestCase):
    def test_interface(self):
        off, less = ("part", 50, "down"), ("add", -10)
        self.assertIs(same((off, less), (less, off)), False)
        self.assertEqual(parts((off, less), (less, off)), 12)
        self.assertEqual(apart((off, less), (less, off)), (-5, 0))
        self.assertEqual(apart((off,), (("part", 80, "up"),)), (None, 0))
        self.assertIs(same((less, less), (("add", -20),)), True)
        self.assertIs(same((("add", 10), less), ()), True)
        self.assertIs(same((less, ("add", 10)), (("least", 10),)), True)
        self.assertEqual(needless((("least", 5), ("add", 7), ("least", 9))), [2])

    def test_defined_where_listed(self):
        for function in (same, parts, apart, needless):
            self.assertEqual(function.__module__, "tillsteps.parting")


class TestSame(PairCase):
    def test_no_steps(self):
        self.check_same((), ())
        for step in (("part", 100, "up"), ("part", 100, "near"), ("add", 0), ("least", 0)):
            self.check_same((step,), ())
            self.check_same((step,) * 6, ())

    def test_row_and_itself(self):
        for row in SMALL_ROWS[::7] + [FAR_FLAT] + [row for row, _ in WIDE_ROWS]:
            self.check_same(row, row)

    def test_another_form(self):
        self.check_same((("part", 0, "up"),), (("most", 0),))
        self.check_same((("part", 0, "up"), ("add", 7)), (("least", 7), ("most", 7)))
        self.check_same((("add", -100), ("add", -100)), (("add", -200),))
        self.check_same((("add", -10), ("add", 10)), (("least", 10),))
        self.check_same((("even", 10, "down"), ("even", 5, "up")), (("even", 10, "down"),))
        self.check_same((("even", 2, "near"),), (("even", 2, "up"),))
        self.check_same((("part", 50, "near"),), (("part", 50, "up"),))
        self.check_same((("part", 200, "near"), ("part", 50, "down")), ())
        self.check_same((("part", 50, "down"), ("part", 200, "down")), (("even", 2, "down"),))
        self.check_same((("part", 10, "down"), ("part", 10, "down")), (HUNDREDTH,))
        self.check_same((("part", 10, "up"), ("part", 10, "up")), (("part", 1, "up"),))
        self.check_same((("most", 20), ("least", 30)), (("part", 0, "near"), ("add", 30)))

    def test_another_order(self):
        for one in permutations((("part", 10, "down"), ("part", 50, "down"), ("part", 20, "down"))):
            self.check_same(one, (HUNDREDTH,))
        self.check_same((("least", 3), ("most", 5)), (("most", 5), ("least", 3)))
        self.check_same((("even", 5, "up"), ("add", 10)), (("add", 10), ("even", 5, "up")))
        self.check_same((("most", 300), HUNDREDTH), (HUNDREDTH, ("most", 3)))

    def test_not_the_same(self):
        self.check((("part", 10, "near"), ("part", 10, "near")), (("part", 1, "near"),), 45, (0, 1))
        self.check((("least", 5), ("most", 3)), (("most", 3), ("least", 5)), 0, (-2, -2))
        self.check((("add", 1),), (), 0, (1, 1))
        self.check((("add", -1),), (), 1, (-1, 0))
        self.check((("part", 150, "down"),), (("part", 150, "up"),), 1, (-1, 0))
        self.check((("even", 3, "down"),), (("even", 3, "up"),), 1, (-3, 0))
        self.check((("even", 3, "near"),), (("even", 3, "up"),), 1, (-3, 0))
        self.check((("most", 7),), (("most", 5),), 6, (0, 2))
        self.check((("least", 7),), (("least", 5),), 0, (0, 2))

    def test_bounds_at_one_end_only(self):
        self.check((), (("most", 50),), 51, (0, None))
        self.check((("least", 50),), (("most", 20),), 0, (30, None))
        self.check((("part", 200, "up"),), (("add", 200),), 0, (-200, None))
        self.check((("part", 0, "up"),), (), 1, (None, 0))
        self.check((("part", 99, "down"),), (("part", 98, "up"),), 1, (-1, None))
        self.check((("part", 50, "up"),), (("part", 51, "down"),), 1, (None, 1))
        self.check((("part", 101, "down"),), (), 100, (0, None))
        self.check((("least", 50),), (), 0, (0, 50))


class TestByEachPrice(PairCase):
    def test_small_rows(self):
        prices = range(800)
        table = [finals(row, prices) for row in SMALL_ROWS]
        for at, with_at in list(product(range(len(SMALL_ROWS)), repeat=2))[::13]:
            one, other = SMALL_ROWS[at], SMALL_ROWS[with_at]
            gaps = [first - second for first, second in zip(table[at], table[with_at])]
            parting = next((price for price in prices if gaps[price] != 0), None)
            growth = Fraction(*slope(one)) - Fraction(*slope(other))
            bounds = (None if growth < 0 else min(gaps), None if growth > 0 else max(gaps))
            self.assertEqual(parts(one, other), parting, (one, other))
            self.assertEqual(same(one, other), parting is None, (one, other))
            self.assertEqual(apart(one, other), bounds, (one, other))

    def test_orders_of_three_steps(self):
        for steps in list(product(SMALL_STEPS[1:], repeat=3))[::101]:
            for other in permutations(steps):
                self.check(steps, other, *told_by_each_price(steps, other, range(700)))

    def test_greatest_bounds(self):
        rows = [(("least", 1000),), (("most", 1000),), (("add", -200), ("add", 200)), (("part", 33, "near"),),
                (("part", 33, "up"), ("least", 1000)), (("part", 200, "up"), ("most", 1000), ("add", -200)),
                (("most", 999), ("least", 998)), (("even", 100, "near"),), (("least", 1000), ("part", 3, "down"))]
        for one, other in product(rows, repeat=2):
            self.check(one, other, *told_by_each_price(one, other, range(3600)))


class TestAllPrices(PairCase):
    """What is decided far beyond what can be seen price by price."""

    def test_upper_bounds_that_lie_far(self):
        for count, most in ((5, 1000), (5, 1), (3, 7)):
            row = (HUNDREDTH,) * count
            self.check(row + (("most", most),), row + (("most", most - 1),), most * 100 ** count, (0, 1))

    def test_far_and_near_bounds(self):
        ups = (("part", 1, "up"),) * 5 + (("most", 1000),)
        self.check(FAR_FLAT, ups, 1, (-1, 0))
        self.check(FAR_FLAT, (("most", 1000),), 1, (-1000, 0))
        self.check(FAR_FLAT, (("part", 0, "up"),), 10 ** 10, (0, 1000))
        self.check(FAR_FLAT, (), 1, (None, 0))
        self.check(FAR_FLAT, (HUNDREDTH,), 100, (None, 0))
        self.check(FAR_FLAT, (("least", 1000),), 0, (None, -1000))
        self.check_same(FAR_FLAT[:5] + (("most", 0),), (("most", 0),))

    def test_same_with_bounds_that_lie_far(self):
        steps = FAR_FLAT[2:]
        self.check_same(steps, (("least", 0),) + steps)
        self.check_same(steps, steps[:3] + (("most", 1000), ("most", 1000)))
        self.check_same((("most", 1000),) + steps[:3], (("part", 0, "down"),))
        self.check((("add", 1),) + steps, steps, 10 ** 6 - 1, (0, 1))

    def test_lower_bounds_that_lie_far(self):
        row = (HUNDREDTH, HUNDREDTH)
        self.check(row + (("least", 1000),), row + (("least", 999),), 0, (0, 1))
        self.check_same(row + (("add", -200),), row + (("add", -199), ("add", -1)))
        self.check_same(row + (("add", -200), ("add", 200)), row + (("least", 200),))
        self.check(row + (("add", -200),), (("part", 0, "up"),), 201 * 10 ** 4, (0, None))
        self.check(row + (("add", -200), ("most", 3)), (("most", 0),), 201 * 10 ** 4, (0, 3))
        self.check(row + (("least", 1000),), (("least", 1000), ("most", 1000)), 1001 * 10 ** 4, (0, None))
        self.check(row + (("least", 1000),), row, 0, (0, 1000))

    def test_bounds_apart_from_each_other(self):
        row = (HUNDREDTH, ("least", 500))
        self.check(row, (HUNDREDTH,), 0, (0, 500))
        self.check(row, (), 0, (None, 500))
        self.check(row, (("even", 7, "down"),), 0, (None, 500))
        self.check(row, (HUNDREDTH, ("add", 3), ("least", 500)), 49800, (-3, 0))
        self.check(row, (HUNDREDTH, ("most", 700), ("least", 500)), 70100, (0, None))

    def test_parting_in_the_last_price_of_a_width(self):
        self.check((HUNDREDTH, HUNDREDTH), (("add", 1), HUNDREDTH, HUNDREDTH), 9999, (-1, 0))
        self.check((("even", 100, "down"),), (("add", 1), ("even", 100, "down")), 99, (-100, 0))

    def test_parting_behind_a_whole_width(self):
        self.check((("part", 100, "up"),), (("part", 101, "down"),), 100, (None, 0))
        self.check((HUNDREDTH,), (("part", 2, "down"),), 50, (None, 0))
        self.check((("even", 100, "down"),), (HUNDREDTH, ("part", 0, "up")), 100, (0, None))
        self.check((HUNDREDTH, HUNDREDTH), (("most", 0),), 10000, (0, None))
        self.check((HUNDREDTH, HUNDREDTH, ("even", 2, "down")), (("most", 0),), 20000, (0, None))

    def test_slopes_that_are_hardly_apart(self):
        one = (("part", 99, "down"), ("part", 101, "down"))
        self.check(one, (), *told_by_each_price(one, (), range(20000)))
        self.check(one + (("add", 200),), (), 0, (None, 200))
        # The price itself is greater from some price on, but its greatest lead has no bound.
        one, other = (("part", 101, "up"), ("part", 99, "up"), ("add", 200)), ()
        self.assertEqual(pay(one, 3 * 10 ** 6) - 3 * 10 ** 6, -100)
        self.check(one, other, *told_by_each_price(one, other, range(20000)))


class TestNeedless(unittest.TestCase):
    def check(self, steps, indexes):
        with self.subTest(steps=steps):
            self.assertEqual(needless(steps), indexes)
            self.assertIs(type(needless(steps)), list)

    def test_none(self):
        self.check((), [])
        self.check((("add", 5),), [])
        self.check((("part", 50, "up"), ("part", 50, "up")), [])
        self.check((("least", 5), ("add", 7), ("most", 13)), [])

    def test_single_steps(self):
        for step in (("part", 100, "down"), ("add", 0), ("least", 0)):
            self.check((step,), [0])
            self.check((step,) * 6, [0, 1, 2, 3, 4, 5])
            self.check((("even", 10, "up"), step, ("add", -3)), [1])

    def test_each_alone_but_not_together(self):
        self.check((("least", 5), ("least", 5)), [0, 1])
        self.check((("most", 9), ("most", 9), ("most", 9)), [0, 1, 2])
        self.check((("even", 10, "up"), ("add", 0), ("even", 10, "near")), [1, 2])
        self.check((("even", 10, "up"), ("even", 10, "up")), [0, 1])
        self.check((("part", 0, "up"), ("most", 0)), [0, 1])

    def test_hidden_by_another(self):
        self.check((("least", 5), ("least", 9)), [0])
        self.check((("least", 9), ("least", 5)), [1])
        self.check((("most", 9), ("most", 5)), [0])
        self.check((("part", 150, "up"), ("add", 7), ("part", 0, "up"), ("add", 3)), [0, 1])
        self.check((("add", -200), ("part", 90, "up"), ("most", 0)), [0, 1])
        self.check((("most", 50), ("add", 7), ("least", 200)), [1])
        self.check((("add", -200), ("most", 1000), ("least", 1000)), [0])

    def test_by_bounds_that_lie_far(self):
        steps = (HUNDREDTH, HUNDREDTH, ("least", 1), ("least", 2))
        self.check(steps, [2])
        self.check((("least", 1000), HUNDREDTH, HUNDREDTH), [0])
        self.check((("most", 100), ("most", 99), HUNDREDTH), [0])

    def test_by_each_price(self):
        prices = range(800)
        for steps in SMALL_ROWS + list(product(SMALL_STEPS, repeat=3))[::37]:
            all_finals = finals(steps, prices)
            told = [index for index in range(len(steps)) if finals(without(steps, index), prices) == all_finals]
            self.check(steps, told)


class TestWidths(unittest.TestCase):
    def test_as_told(self):
        for row, wide in WIDE_ROWS + TOO_WIDE_ROWS:
            self.assertEqual(width(row)[0], wide)

    def check(self, one, other, wide):
        """The common width is as told, and decides whether all is told or refused."""
        self.assertEqual(lcm(width(one)[0], width(other)[0]), wide)
        for function in PAIRED:
            for rows in ((one, other), (other, one)):
                if wide > 20000:
                    check_raises(self, TooWide, TOO_WIDE, function, *rows)
                else:
                    function(*rows)

    def test_one_row_alone(self):
        for row, wide in WIDE_ROWS + TOO_WIDE_ROWS:
            for other in (row, (), FAR_FLAT):
                self.check(row, other, wide)

    def test_both_rows(self):
        self.check((HUNDREDTH, HUNDREDTH), (("even", 32, "up"),), 20000)
        self.check((HUNDREDTH, HUNDREDTH), (("even", 64, "up"),), 40000)
        self.check((HUNDREDTH, HUNDREDTH), (("even", 3, "up"),), 30000)
        self.check((("even", 81, "up"), ("even", 13, "up")), (("even", 17, "up"),), 17901)
        self.check((("even", 81, "up"), ("even", 13, "up")), (("even", 19, "up"),), 20007)
        self.check((("even", 100, "up"), ("even", 99, "up")), (("even", 8, "up"),), 19800)
        self.check((("even", 100, "up"), ("even", 99, "up")), (("even", 16, "up"),), 39600)

    def test_told_at_the_greatest_width(self):
        row = WIDE_ROWS[0][0]
        self.assertIs(same(row, row + (("add", 0),)), True)
        self.assertIsNone(parts(row, row + (("add", 0),)))
        self.assertEqual(apart(row, row + (("add", 1),)), (-1, -1))
        self.assertEqual(needless(row + (("add", 0),)), [3])

    def test_needless_asks_for_each_row(self):
        check_raises(self, TooWide, TOO_WIDE, needless, TOO_WIDE_ROWS[0][0])
        # These are not too wide, but without the last one they are.
        for steps in (FAR_FLAT, (HUNDREDTH,) * 3 + (("most", 5),), (HUNDREDTH,) * 3 + (("part", 0, "up"),)):
            self.assertEqual(width(steps), (1, 0))
            self.assertGreater(width(steps[:-1])[0], 20000)
            check_raises(self, TooWide, TOO_WIDE, needless, steps)
        # No row alone is too wide, but all of them together are.
        steps = (HUNDREDTH, ("part", 3, "up"), ("even", 3, "up"))
        rows = [steps] + [without(steps, index) for index in range(3)]
        self.assertEqual([width(row)[0] for row in rows], [10000, 100, 300, 10000])
        check_raises(self, TooWide, TOO_WIDE, needless, steps)
        self.assertEqual(needless((HUNDREDTH, ("part", 3, "up"), ("even", 2, "up"))), [])


class TestWrongSteps(unittest.TestCase):
    def check(self, index, function, *rows):
        check_raises(self, BadSteps, {"index": index}, function, *rows)

    def test_no_steps(self):
        for value in NO_TUPLES:
            self.check(None, needless, value)
            for function in PAIRED:
                self.check(None, function, value, ())
                self.check(None, function, (("add", 5),), value)

    def test_no_step(self):
        for value in NO_STEPS:
            row = (("add", 5), ("most", 9), value, None)
            self.check(2, needless, row)
            for function in PAIRED:
                self.check(2, function, row, ())
                self.check(2, function, (), row)

    def test_one_ahead_of_other(self):
        for function in PAIRED:
            self.check(None, function, None, (None,))
            self.check(0, function, (None,), None)
            self.check(1, function, (("add", 5), ("add", 201)), (("add", True),))
            self.check(3, function, (("add", 5),) * 3 + ("add",), ())

    def test_ahead_of_width(self):
        for row, _ in TOO_WIDE_ROWS[:3]:
            self.check(3, needless, row + (None,))
            for function in PAIRED:
                self.check(3, function, row + (None,), row)
                self.check(3, function, row, row + (None,))
                self.check(None, function, row, [])
                self.check(0, function, (None,), row)


class TestGeneral(unittest.TestCase):
    def test_repeated_calls(self):
        off, less = ("part", 50, "down"), ("add", -10)
        for _ in range(3):
            with self.assertRaises(TooWide):
                same(TOO_WIDE_ROWS[0][0], ())
            self.assertEqual(parts((off, less), (less, off)), 12)
            self.assertEqual(apart((off, less), (less, off)), (-5, 0))
            self.assertEqual(needless((less, ("add", 0), off)), [1])

    def test_needless_is_a_new_list(self):
        steps = (("add", 0), ("add", 0))
        first = needless(steps)
        first.append(7)
        first[0] = None
        self.assertEqual(needless(steps), [0, 1])


if __name__ == "__main__":
    unittest.main()
