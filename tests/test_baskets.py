import unittest
from itertools import product

from tests.samples import (
    END_STEPS, FAR_FLAT, HUNDREDTH, NO_PRICE_TUPLES, NO_PRICES, NO_STEPS, NO_TUPLES, PLAIN_STEPS, SMALL_ROWS,
    SMALL_STEPS, TOO_WIDE_ROWS, WIDE_ROWS,
)
from tests.wrong import check_raises
from tillsteps.again import settles
from tillsteps.baskets import best_split, join_pair, split_gap, split_pair
from tillsteps.errors import BadPrices, BadSteps, TooWide
from tillsteps.far import width
from tillsteps.steps import pay

GREAT = 10 ** 30
TENS = (("even", 10, "near"),)
FEE = (("add", 5), ("least", 20))
OF_TWO = (split_gap, split_pair, join_pair)


def told_by_pairs(steps, many):
    """The gap and the two pairs, if the prices below many show all."""
    finals = [pay(steps, price) for price in range(2 * many)]
    gaps = {(x, y): finals[x] + finals[y] - finals[x + y] for x in range(many) for y in range(x, many)}
    split = min([(x + y, x, y) for (x, y), gap in gaps.items() if gap < 0], default=(None,))
    join = min([(x + y, x, y) for (x, y), gap in gaps.items() if gap > 0], default=(None,))
    return (min(gaps.values()), max(gaps.values())), split[1:] or None, join[1:] or None


class TestExamples(unittest.TestCase):
    def test_interface(self):
        self.assertEqual([split_gap(TENS), split_pair(TENS), join_pair(TENS)], [(-10, 10), (1, 4), (5, 5)])
        self.assertEqual([split_gap(FEE), split_pair(FEE), join_pair(FEE)], [(5, 20), None, (0, 0)])
        self.assertEqual(best_split(TENS, (4, 4, 4)), (0, ((0,), (1,), (2,))))
        self.assertEqual(best_split(FEE, (1, 30, 2)), (38, ((0, 1, 2),)))
        self.assertEqual(best_split((), (3, 1)), (4, ((0,), (1,))))

    def test_defined_where_listed(self):
        for function in OF_TWO + (best_split,):
            self.assertEqual(function.__module__, "tillsteps.baskets")


class TestTwoPrices(unittest.TestCase):
    def check(self, steps, gap, split, join):
        with self.subTest(steps=steps):
            self.assertEqual([split_gap(steps), split_pair(steps), join_pair(steps)], [gap, split, join])
            self.assertIs(type(split_gap(steps)), tuple)
            for pair, told in ((split_pair(steps), split), (join_pair(steps), join)):
                self.assertIs(type(pair), type(told))

    def test_no_difference(self):
        for steps in ((), (("add", 0),), (("part", 100, "up"),), (("part", 200, "near"),), (("part", 0, "up"),),
                      (("most", 0),), (("least", 0),), (("part", 200, "up"), ("part", 50, "down"))):
            self.check(steps, (0, 0), None, None)

    def test_never_less_apart(self):
        self.check((("add", 5),), (5, 5), None, (0, 0))
        self.check((("add", 200),), (200, 200), None, (0, 0))
        self.check((("least", 20),), (0, 20), None, (0, 0))
        self.check((("part", 50, "up"),), (0, 1), None, (1, 1))
        self.check((("even", 10, "up"),), (0, 10), None, (1, 1))
        self.check((("even", 3, "up"),), (0, 3), None, (1, 1))
        self.check((("most", 9),), (0, 9), None, (1, 9))
        self.check((("part", 1, "up"),), (0, 1), None, (1, 1))

    def test_never_more_apart(self):
        self.check((("add", -5),), (-5, 0), (1, 5), None)
        self.check((("add", -1),), (-1, 0), (1, 1), None)
        self.check((("part", 50, "down"),), (-1, 0), (1, 1), None)
        self.check((("even", 10, "down"),), (-10, 0), (1, 9), None)
        self.check((("part", 1, "down"),), (-1, 0), (1, 99), None)
        self.check((("part", 33, "down"),), (-1, 0), (1, 3), None)

    def test_both(self):
        self.check((("part", 50, "near"),), (0, 1), None, (1, 1))
        self.check((("part", 33, "near"),), (-1, 1), (1, 1), (2, 2))
        self.check((("even", 3, "near"),), (-3, 3), (1, 1), (2, 2))
        self.check((("add", -5), ("most", 9)), (-5, 9), (1, 5), (6, 14))
        self.check((("add", -5), ("least", 1)), (-5, 1), (2, 6), (0, 0))

    def test_least_sum_and_then_least_price(self):
        # 1 costs more apart from 7, and 3 from 23, but here the sums are greater.
        self.check((("part", 125, "near"), ("most", 9)), (-1, 9), (1, 1), (2, 2))
        self.check((("part", 40, "down"), ("most", 9)), (-1, 9), (1, 2), (5, 20))
        # Several pairs have the sum 3, or 7, or 4.
        self.check((("even", 5, "near"),), (-5, 5), (1, 2), (3, 3))
        self.check((("even", 7, "down"),), (-7, 0), (1, 6), None)
        self.check((("add", -3), ("even", 4, "up")), (-4, 0), (1, 3), None)

    def test_by_pairs_of_small_prices(self):
        rows = SMALL_ROWS[::2] + list(product(SMALL_STEPS, repeat=3))[::97]
        some = [step for step in PLAIN_STEPS + END_STEPS if step[0] not in ("least", "most") or step[1] < 100]
        for steps in rows + list(product(some, repeat=2))[::11]:
            reach = settles(steps) + width(steps)[0]
            if reach <= 130:
                self.check(steps, *told_by_pairs(steps, 2 * reach + 40))

    def test_great_prices_make_no_other_difference(self):
        for steps in SMALL_ROWS[::5] + [TENS, FEE, (("part", 33, "up"), ("add", -7)), (("least", 300),)]:
            least, greatest = split_gap(steps)
            for x in (0, 1, 2, 7, 45, 333, 10 ** 6 + 1, GREAT // 3, GREAT // 2 - 7):
                for y in (0, 1, 3, 49, 299, 10 ** 6 + 3, GREAT // 7, GREAT // 2 - 1, GREAT // 2):
                    gap = pay(steps, x) + pay(steps, y) - pay(steps, x + y)
                    self.assertTrue(least <= gap <= greatest, (steps, x, y))
                    if gap < 0:
                        pair = split_pair(steps)
                        self.assertLessEqual((sum(pair), pair[0]), (x + y, min(x, y)), (steps, x, y))
                    if gap > 0:
                        pair = join_pair(steps)
                        self.assertLessEqual((sum(pair), pair[0]), (x + y, min(x, y)), (steps, x, y))

    def test_only_behind_the_bounds(self):
        self.check((("add", -200), ("add", -150)), (-350, 0), (1, 350), None)
        self.check((("most", 399),), (0, 399), None, (1, 399))
        self.check((("add", -100), ("even", 100, "near")), (-200, 0), (1, 149), None)
        self.check((("least", 399),), (0, 399), None, (0, 0))


class TestWidths(unittest.TestCase):
    def check(self, most, steps):
        for function in OF_TWO:
            check_raises(self, TooWide, {"most": most}, function, steps)

    def test_settles_and_width_up_to_400(self):
        for steps in ((("add", -200), ("add", -199)), (("least", 399),), (("most", 399),),
                      (("even", 100, "down"), ("even", 16, "down")), (("even", 50, "up"), ("part", 25, "down")),
                      (("even", 100, "up"), ("part", 50, "up"), ("add", -100), ("add", -40))):
            with self.subTest(steps=steps):
                reach = settles(steps) + width(steps)[0]
                self.assertLessEqual(reach, 400)
                for function in OF_TWO:
                    function(steps)
        self.assertEqual(settles((("add", -200), ("add", -199))) + 1, 400)
        self.assertEqual(settles((("least", 399),)) + 1, 400)
        self.assertEqual(width((("even", 100, "down"), ("even", 16, "down"))), (400, 400))

    def test_settles_and_width_above_400(self):
        for steps in ((("add", -200), ("add", -200)), (("least", 400),), (("most", 400),), (("most", 1000),),
                      (("even", 6, "up"), ("even", 67, "up")), (("add", -1), ("even", 100, "down"), ("even", 16, "up")),
                      (HUNDREDTH, HUNDREDTH), FAR_FLAT, (("least", 301), ("part", 50, "near"))):
            self.assertGreater(settles(steps) + width(steps)[0], 400)
            self.check(400, steps)
        self.assertEqual(settles((("add", -200), ("add", -200))) + 1, 401)
        self.assertEqual(settles((("most", 400),)) + 1, 401)
        self.assertEqual(settles((("even", 6, "up"), ("even", 67, "up"))), 0)
        self.assertEqual(width((("even", 6, "up"), ("even", 67, "up"))), (402, 402))

    def test_width_up_to_20000(self):
        for steps, wide in WIDE_ROWS:
            self.assertLessEqual(wide, 20000)
            self.check(400, steps)

    def test_width_above_20000(self):
        for steps, wide in TOO_WIDE_ROWS:
            self.assertGreater(wide, 20000)
            self.check(20000, steps)

    def test_none_for_best_split(self):
        for steps, _ in TOO_WIDE_ROWS + WIDE_ROWS:
            self.assertEqual(best_split(steps, (0,)), (pay(steps, 0), ((0,),)))
            self.assertEqual(best_split(steps, (10 ** 20, 7)), told_by_partings(steps, (10 ** 20, 7)))


def parted(labels):
    """The ascending parting in which the things with the same label are in one lot."""
    lots = [tuple(at for at, label in enumerate(labels) if label == one) for one in set(labels)]
    return tuple(sorted(lots))


def told_by_partings(steps, prices):
    found = []
    for lots in {parted(labels) for labels in product(range(len(prices)), repeat=len(prices))}:
        cost = 0
        for lot in lots:
            reached = sum(prices[index] for index in lot)
            # The sum may be beyond what can be passed: less by whole widths, where the row has settled, it can.
            times = max(0, (reached - GREAT) // width(steps)[0] + 1)
            cost += pay(steps, reached - times * width(steps)[0]) + times * width(steps)[1]
        found.append((cost, lots))
    return min(found)


class TestBestSplit(unittest.TestCase):
    def check(self, steps, prices, total, lots):
        with self.subTest(steps=steps, prices=prices):
            found = best_split(steps, prices)
            self.assertEqual(found, (total, lots))
            self.assertEqual({type(found), type(found[1])} | {type(lot) for lot in found[1]}, {tuple})
            self.assertIs(type(found[0]), int)

    def test_one_price(self):
        for price in (0, 1, 45, GREAT):
            for steps in ((), TENS, FEE, (("add", -7),), (("most", 3),), FAR_FLAT, (HUNDREDTH,) * 6):
                self.check(steps, (price,), pay(steps, price), ((0,),))

    def test_two_prices(self):
        self.check(TENS, (1, 4), 0, ((0,), (1,)))
        self.check(TENS, (5, 5), 10, ((0, 1),))
        self.check(TENS, (0, 10), 10, ((0,), (1,)))
        self.check((("add", -7),), (5, 6), 0, ((0,), (1,)))
        self.check((("add", 7),), (5, 6), 18, ((0, 1),))
        self.check((("add", 7),), (6, 5), 18, ((0, 1),))

    def test_least_of_several(self):
        self.check((), (3, 1, 4), 8, ((0,), (1,), (2,)))
        self.check((), (0, 0), 0, ((0,), (1,)))
        self.check((("most", 9),), (9, 9, 9), 9, ((0, 1, 2),))
        self.check((("most", 9),), (0, 9, 0), 9, ((0,), (1,), (2,)))
        self.check((("most", 9),), (9, 0, 9), 9, ((0, 1, 2),))
        self.check((("most", 9),), (9, 9, 0), 9, ((0, 1), (2,)))
        self.check((("most", 9),), (0, 9, 9), 9, ((0,), (1, 2)))
        # Two lots of two are as cheap with each of the others: the first one goes with the second one.
        self.check((("even", 10, "near"), ("most", 10)), (6, 6, 6, 6), 10, ((0, 1, 2, 3),))
        self.check((("least", 10),), (5, 5, 5, 5), 20, ((0, 1), (2, 3)))
        self.check((("least", 10),), (5, 5, 5), 15, ((0, 1, 2),))
        self.check((("even", 10, "up"),), (4, 6, 4, 6), 20, ((0, 1), (2, 3)))
        self.check((("even", 10, "up"),), (4, 4, 6, 6), 20, ((0, 1, 2, 3),))

    def test_six_prices(self):
        self.check(TENS, (4,) * 6, 0, ((0,), (1,), (2,), (3,), (4,), (5,)))
        self.check(TENS, (5,) * 6, 30, ((0, 1), (2, 3), (4, 5)))
        self.check(FEE, (1, 2, 3, 4, 5, 6), 26, ((0, 1, 2, 3, 4, 5),))
        self.check((("part", 50, "up"),), (1, 3, 5, 7, 9, 11), 18, ((0, 1), (2, 3), (4, 5)))
        self.check((("add", -10),), (10, 20, 30, 3, 4, 50), 70, ((0,), (1,), (2,), (3,), (4,), (5,)))

    def test_prices_of_0(self):
        self.check((), (0,) * 6, 0, ((0,), (1,), (2,), (3,), (4,), (5,)))
        self.check((("add", 5),), (0,) * 6, 5, ((0, 1, 2, 3, 4, 5),))
        self.check(FEE, (0, 50, 0), 55, ((0, 1, 2),))
        self.check((("add", -5),), (0, 50, 0), 45, ((0,), (1,), (2,)))

    def test_great_prices(self):
        self.check((), (GREAT,) * 6, 6 * GREAT, ((0,), (1,), (2,), (3,), (4,), (5,)))
        self.check((("add", 1),), (GREAT,) * 6, 6 * GREAT + 1, ((0, 1, 2, 3, 4, 5),))
        self.check((("add", -1),), (GREAT,) * 6, 6 * GREAT - 6, ((0,), (1,), (2,), (3,), (4,), (5,)))
        self.check((("part", 50, "up"),), (GREAT - 1, 2, GREAT - 1), GREAT, ((0, 1, 2),))
        self.check((("part", 50, "up"),), (GREAT - 1, GREAT - 1, 2), GREAT, ((0, 1), (2,)))
        self.check((("most", 5),), (GREAT, GREAT, 0), 5, ((0, 1), (2,)))

    def test_by_all_partings(self):
        rows = [TENS, FEE, (("add", -7),), (("part", 33, "near"), ("add", 2)), (("even", 7, "up"), ("most", 45)),
                (("least", 13), ("even", 4, "near")), (("part", 90, "up"), ("even", 5, "down")), (), FAR_FLAT]
        some = [(5,), (0, 3), (7, 7), (1, 2, 3), (9, 0, 9), (14, 3, 3), (5, 1, 8, 2), (6, 6, 6, 6), (0, 1, 0, 2),
                (3, 9, 2, 7, 5), (1, 1, 1, 1, 1), (12, 4, 33, 8, 21), (GREAT, 3, GREAT - 5, 8)]
        for steps, prices in product(rows, some):
            self.check(steps, prices, *told_by_partings(steps, prices))
        for steps, prices in ((rows[3], (8, 1, 6, 3, 5, 7)), (rows[5], (2, 3, 5, 7, 11, 13)), (TENS, (16,) * 6)):
            self.check(steps, prices, *told_by_partings(steps, prices))


class TestWrongValues(unittest.TestCase):
    def test_no_steps(self):
        for value in NO_TUPLES:
            for function in OF_TWO:
                check_raises(self, BadSteps, {"index": None}, function, value)
            check_raises(self, BadSteps, {"index": None}, best_split, value, (5, 6))
        for value in NO_STEPS:
            for function in OF_TWO:
                check_raises(self, BadSteps, {"index": 0}, function, (value,))
                check_raises(self, BadSteps, {"index": 4}, function, (HUNDREDTH,) * 4 + (value, None))
            check_raises(self, BadSteps, {"index": 0}, best_split, (value,), (5, 6))
            check_raises(self, BadSteps, {"index": 2}, best_split, (("add", 5), ("most", 3), value, None), (5, 6))

    def test_no_tuple_of_1_to_6_prices(self):
        for prices in NO_PRICE_TUPLES:
            for steps in ((), TENS, (HUNDREDTH,) * 6):
                check_raises(self, BadPrices, {"index": None}, best_split, steps, prices)

    def test_no_price(self):
        for price in NO_PRICES:
            check_raises(self, BadPrices, {"index": 0}, best_split, TENS, (price,))
            check_raises(self, BadPrices, {"index": 0}, best_split, TENS, (price, 5, price))
            check_raises(self, BadPrices, {"index": 2}, best_split, TENS, (5, 6, price, None, -1))
            check_raises(self, BadPrices, {"index": 5}, best_split, (HUNDREDTH,) * 6, (5,) * 5 + (price,))

    def test_steps_ahead_of_prices(self):
        for prices in NO_PRICE_TUPLES + [(price,) for price in NO_PRICES]:
            check_raises(self, BadSteps, {"index": 1}, best_split, (("add", 5), None), prices)
            check_raises(self, BadSteps, {"index": None}, best_split, (("add", 5),) * 7, prices)

    def test_ends_of_the_range(self):
        self.assertEqual(best_split((), (0, GREAT)), (GREAT, ((0,), (1,))))
        check_raises(self, BadPrices, {"index": 1}, best_split, (), (0, GREAT + 1))
        check_raises(self, BadPrices, {"index": 0}, best_split, (), (-1, GREAT))


class TestGeneral(unittest.TestCase):
    def test_repeated_calls(self):
        for _ in range(3):
            self.assertEqual([split_gap(TENS), split_pair(TENS), join_pair(TENS)], [(-10, 10), (1, 4), (5, 5)])
            self.assertEqual(best_split(TENS, (4, 4, 4)), (0, ((0,), (1,), (2,))))
            with self.assertRaises(BadPrices):
                best_split(TENS, (4, True))
            with self.assertRaises(TooWide):
                split_gap(FAR_FLAT)


if __name__ == "__main__":
    unittest.main()
