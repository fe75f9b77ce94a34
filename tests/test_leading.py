import unittest
from itertools import product

from tests.samples import (
    FAR_FLAT, HUNDREDTH, NO_NUMBERS, NO_PRICES, NO_STEPS, NO_TUPLES, SMALL_ROWS, SMALL_STEPS, TOO_WIDE_ROWS, WIDE_ROWS,
)
from tests.wrong import check_raises
from tillsteps.errors import BadNumber, BadPrice, BadSteps, TooWide
from tillsteps.far import width
from tillsteps.leading import before, missing, stays
from tillsteps.steps import pay

TOO_WIDE = {"most": 20000}
HALF = (("part", 50, "down"),)
DOUBLE = (("part", 200, "up"),)
GREAT = 10 ** 30
EACH = [(before, 5), (missing, 5), (stays, 5)]


class TestExamples(unittest.TestCase):
    def test_interface(self):
        self.assertEqual(before(HALF, 3), (6, 7))
        self.assertIsNone(before(DOUBLE, 3))
        self.assertEqual(before((("most", 9),), 9), (9, None))
        self.assertEqual(missing((("part", 150, "down"),), 4), [2, 5, 8, 11])
        self.assertEqual(missing(HALF, 3), [])
        self.assertEqual(stays(HALF, 5), [0])
        self.assertEqual(stays((("even", 4, "near"),), 3), [0, 4, 8])
        self.assertEqual(stays((("add", 100), ("part", 90, "down")), 4), [891, 892, 893, 894])

    def test_defined_where_listed(self):
        for function in (before, missing, stays):
            self.assertEqual(function.__module__, "tillsteps.leading")


class TestBefore(unittest.TestCase):
    def check(self, steps, final, told):
        with self.subTest(steps=steps, final=final):
            self.assertEqual(before(steps, final), told)
            self.assertIs(type(before(steps, final)), type(told))

    def test_no_steps(self):
        for final in (0, 1, 45, GREAT):
            self.check((), final, (final, final))

    def test_no_price(self):
        self.check(DOUBLE, 1, None)
        self.check((("even", 10, "up"),), 5, None)
        self.check((("least", 30),), 29, None)
        self.check((("least", 30),), 0, None)
        self.check((("most", 30),), 31, None)
        self.check((("most", 30),), GREAT, None)
        self.check((("part", 0, "up"),), 1, None)
        self.check((("add", 7),), 6, None)
        self.check((("most", 9), ("least", 12)), 9, None)

    def test_one_price(self):
        self.check((("add", 7),), 7, (0, 0))
        self.check((("add", -7),), 1, (8, 8))
        self.check((("least", 30),), 31, (31, 31))
        self.check((("most", 30),), 29, (29, 29))
        self.check(DOUBLE, 8, (4, 4))
        self.check((("part", 100, "near"),), 8, (8, 8))

    def test_several_prices(self):
        self.check((("add", -7),), 0, (0, 7))
        self.check((("least", 30),), 30, (0, 30))
        self.check((("even", 10, "near"),), 20, (15, 24))
        self.check((("even", 10, "near"),), 0, (0, 4))
        self.check((("even", 7, "near"),), 7, (4, 10))
        self.check((("even", 10, "up"),), 20, (11, 20))
        self.check((("even", 10, "down"),), 20, (20, 29))
        self.check((HUNDREDTH,), 7, (700, 799))
        self.check((("part", 1, "up"),), 7, (601, 700))
        self.check((("part", 1, "near"),), 7, (650, 749))

    def test_no_greatest_price(self):
        self.check((("most", 0),), 0, (0, None))
        self.check((("part", 0, "near"),), 0, (0, None))
        self.check((("part", 0, "near"), ("add", 200)), 200, (0, None))
        self.check((("most", 9), ("least", 12)), 12, (0, None))
        self.check((("most", 9), ("even", 5, "down")), 5, (5, None))
        self.check((("part", 50, "up"), ("most", 9), ("part", 150, "down")), 13, (17, None))
        self.check((("part", 50, "up"), ("most", 9), ("part", 150, "down")), 12, (15, 16))

    def test_greatest_final(self):
        self.check((("add", 200),), GREAT, (GREAT - 200, GREAT - 200))
        self.check((("add", -200),), GREAT, (GREAT + 200, GREAT + 200))
        self.check(DOUBLE, GREAT, (GREAT // 2, GREAT // 2))
        self.check(DOUBLE, GREAT - 1, None)
        self.check((HUNDREDTH,), GREAT, (100 * GREAT, 100 * GREAT + 99))
        self.check((HUNDREDTH, HUNDREDTH), GREAT, (10 ** 4 * GREAT, 10 ** 4 * GREAT + 9999))
        self.check((("even", 7, "up"),), GREAT - GREAT % 7, (GREAT - GREAT % 7 - 6, GREAT - GREAT % 7))
        self.check((("even", 7, "up"),), GREAT, None)
        self.check((("least", 1000),), GREAT, (GREAT, GREAT))

    def test_bounds_that_lie_far(self):
        self.check(FAR_FLAT, 1000, (10 ** 13, None))
        self.check(FAR_FLAT, 999, (999 * 10 ** 10, 10 ** 13 - 1))
        self.check(FAR_FLAT, 0, (0, 10 ** 10 - 1))
        self.check(FAR_FLAT, 1001, None)
        self.check((HUNDREDTH, HUNDREDTH, ("add", -200)), 0, (0, 201 * 10 ** 4 - 1))

    def test_by_each_price(self):
        for steps in SMALL_ROWS + list(product(SMALL_STEPS, repeat=3))[::37]:
            # In each two widths far out a final price rises, or it never does again.
            prices = range(2000)
            finals = [pay(steps, price) for price in prices]
            for final in range(41):
                first = finals.index(final) if final in finals else None
                last = 1999 - finals[::-1].index(final) if final in finals else None
                told = None if first is None else (first, None if last == 1999 else last)
                self.assertEqual(before(steps, final), told, (steps, final))


class TestMissing(unittest.TestCase):
    def check(self, steps, many, told):
        with self.subTest(steps=steps, many=many):
            self.assertEqual(missing(steps, many), told)
            self.assertIs(type(missing(steps, many)), list)

    def test_none(self):
        for many in (1, 3, 50):
            for steps in ((), HALF, (("add", -200),), (("part", 99, "near"),), (("least", 0),), (HUNDREDTH,) * 2):
                self.check(steps, many, [])

    def test_fewer_than_asked(self):
        self.check((("add", 5),), 50, [0, 1, 2, 3, 4])
        self.check((("least", 3),), 4, [0, 1, 2])
        self.check((("least", 49),), 50, list(range(49)))
        self.check((("add", 3), ("part", 50, "up")), 50, [0, 1])
        self.check((("least", 5), ("add", -4), ("even", 2, "up"), ("part", 50, "up")), 50, [0])

    def test_exactly_so_many(self):
        self.check((("add", 5),), 5, [0, 1, 2, 3, 4])
        self.check((("add", 50),), 50, list(range(50)))
        self.check((("least", 1),), 1, [0])

    def test_more_than_asked(self):
        self.check((("add", 5),), 4, [0, 1, 2, 3])
        self.check((("least", 1000),), 50, list(range(50)))
        self.check(DOUBLE, 1, [1])
        self.check(DOUBLE, 50, list(range(1, 100, 2)))
        self.check((("even", 10, "near"),), 12, [1, 2, 3, 4, 5, 6, 7, 8, 9, 11, 12, 13])
        self.check((("part", 0, "up"),), 50, list(range(1, 51)))
        self.check((("most", 9),), 50, list(range(10, 60)))
        self.check((("most", 2), ("add", 2)), 5, [0, 1, 5, 6, 7])
        self.check((("most", 0), ("add", 2)), 5, [0, 1, 3, 4, 5])
        self.check((("most", 1000),), 50, list(range(1001, 1051)))
        self.check(FAR_FLAT, 50, list(range(1001, 1051)))

    def test_far_from_each_other(self):
        # One in 101 is missing, so that most of what is asked for comes behind the width.
        self.check((("part", 101, "down"),), 50, [100 + 101 * times for times in range(50)])
        self.check((("part", 101, "up"),), 50, [1 + 101 * times for times in range(50)])
        self.check((("part", 101, "near"),), 3, [50, 151, 252])
        told = missing((("part", 101, "near"), ("part", 100, "up"), ("add", 1)), 50)
        self.assertEqual(told, [0] + [51 + 101 * times for times in range(49)])

    def test_none_but_one_in_a_great_width(self):
        steps = (("even", 100, "down"), HUNDREDTH, ("part", 101, "down"))
        self.assertEqual(width(steps)[0], 10000)
        self.check(steps, 50, [100 + 101 * times for times in range(50)])

    def test_by_each_number(self):
        for steps in SMALL_ROWS + list(product(SMALL_STEPS, repeat=3))[::37]:
            finals = {pay(steps, price) for price in range(2000)}
            told = [number for number in range(121) if number not in finals]
            for many in (1, 2, 50):
                found = missing(steps, many)
                self.assertEqual(found[:len(told)], told[:many], (steps, many))
                self.assertLessEqual(len(found), many)


class TestStays(unittest.TestCase):
    def check(self, steps, many, told):
        with self.subTest(steps=steps, many=many):
            self.assertEqual(stays(steps, many), told)
            self.assertIs(type(stays(steps, many)), list)

    def test_none(self):
        for many in (1, 50):
            for steps in ((("add", 1),), (("part", 150, "up"), ("add", 1)), (("even", 5, "up"), ("add", 3)),
                          (("add", 1), ("part", 101, "up")), (("part", 99, "down"), ("add", 200), ("part", 102, "up"))):
                self.check(steps, many, [])

    def test_all(self):
        self.check((), 1, [0])
        self.check((), 50, list(range(50)))
        self.check((("least", 0), ("part", 100, "up")), 5, [0, 1, 2, 3, 4])
        self.check((("add", 5), ("add", -5)), 50, list(range(50)))
        self.check((("add", -5), ("add", 5)), 3, [5, 6, 7])
        self.check((("least", 1000),), 2, [1000, 1001])

    def test_fewer_than_asked(self):
        self.check(HALF, 50, [0])
        self.check((("part", 50, "up"),), 50, [0, 1])
        self.check((("part", 90, "up"),), 50, [0, 1, 2, 3, 4, 5, 6, 7, 8, 9])
        self.check((("part", 90, "near"),), 50, [0, 1, 2, 3, 4, 5])
        self.check((("most", 9),), 50, list(range(10)))
        self.check((("part", 0, "up"), ("add", 77)), 50, [77])
        self.check((("add", -1),), 50, [0])
        self.check(FAR_FLAT, 50, [0])
        self.check((("part", 200, "up"), ("most", 1000)), 50, [0, 1000])
        self.check((("part", 200, "up"), ("add", -10)), 50, [0, 10])

    def test_exactly_so_many(self):
        self.check(HALF, 1, [0])
        self.check((("part", 90, "up"),), 10, [0, 1, 2, 3, 4, 5, 6, 7, 8, 9])
        self.check((("most", 49),), 50, list(range(50)))

    def test_more_than_asked(self):
        self.check((("part", 90, "up"),), 9, [0, 1, 2, 3, 4, 5, 6, 7, 8])
        self.check((("most", 1000),), 50, list(range(50)))
        self.check((("even", 100, "up"),), 50, [100 * times for times in range(50)])
        self.check((("even", 10, "down"), ("least", 15)), 4, [15, 20, 30, 40])
        self.check((("add", 3), ("even", 10, "near"), ("add", -3)), 3, [0, 7, 17])

    def test_far_from_zero(self):
        self.check((("add", 200), ("part", 99, "down")), 3, [19701, 19702, 19703])
        self.assertEqual(len(stays((("add", 200), ("part", 99, "down")), 50)), 50)
        steps = (("part", 101, "up"), ("part", 99, "up"), ("add", 200), ("add", 200))
        told = [price for price in range(3999000, 4001000) if pay(steps, price) == price]
        self.check(steps, 50, told[:50])
        steps = (("part", 101, "up"), ("add", -200))
        told = [price for price in range(1, 21000) if pay(steps, price) == price]
        self.check(steps, 50, [0] + told[:49])
        self.assertEqual(told[0], 19901)

    def test_in_runs(self):
        self.check((("even", 20, "near"), ("most", 50)), 50, [0, 20, 40, 50])
        self.check((("even", 20, "near"), ("most", 50)), 3, [0, 20, 40])
        self.check((("even", 20, "up"), ("add", 5), ("most", 65)), 50, [65])
        self.check((("even", 20, "down"), ("add", 25), ("most", 65)), 50, [65])
        self.check((("even", 20, "down"), ("add", 5), ("most", 30)), 50, [5, 25])

    def test_by_each_price(self):
        for steps in SMALL_ROWS + list(product(SMALL_STEPS, repeat=3))[::37]:
            told = [price for price in range(2000) if pay(steps, price) == price]
            for many in (1, 2, 50):
                self.assertEqual(stays(steps, many), told[:many], (steps, many))


class TestWidths(unittest.TestCase):
    def test_as_told(self):
        for steps, wide in WIDE_ROWS:
            self.assertEqual(width(steps)[0], wide)
            for function, number in EACH:
                function(steps, number)

    def test_too_wide(self):
        for steps, _ in TOO_WIDE_ROWS:
            for function, number in EACH:
                check_raises(self, TooWide, TOO_WIDE, function, steps, number)

    def test_at_the_greatest_width(self):
        steps = WIDE_ROWS[0][0]
        self.assertEqual(pay(steps, 20000), 2)
        first, last = before(steps, 2)
        self.assertEqual([pay(steps, price) for price in (first - 1, first, last, last + 1)], [0, 2, 2, 4])
        self.assertEqual(missing(steps, 3), [1, 3, 5])
        self.assertEqual(stays(steps, 3), [0])


class TestWrongValues(unittest.TestCase):
    def test_no_steps(self):
        for function, number in EACH:
            for value in NO_TUPLES:
                check_raises(self, BadSteps, {"index": None}, function, value, number)
            for value in NO_STEPS:
                check_raises(self, BadSteps, {"index": 1}, function, (("add", 5), value, None), number)

    def test_no_final(self):
        for value in NO_PRICES:
            for steps in ((), HALF, (("most", 9),)):
                check_raises(self, BadPrice, {}, before, steps, value)

    def test_no_number(self):
        for value in NO_NUMBERS:
            for steps in ((), HALF, (("most", 9),)):
                check_raises(self, BadNumber, {}, missing, steps, value)
                check_raises(self, BadNumber, {}, stays, steps, value)

    def test_ends_of_the_ranges(self):
        self.assertEqual([before((), 0), before((), GREAT)], [(0, 0), (GREAT, GREAT)])
        self.assertEqual([len(stays((), many)) for many in (1, 50)], [1, 50])
        self.assertEqual([len(missing((("most", 0),), many)) for many in (1, 50)], [1, 50])

    def test_first_of_several(self):
        wide = TOO_WIDE_ROWS[0][0]
        for number in (-1, 0, 51, True, None, "5", GREAT + 1):
            for function in (before, missing, stays):
                check_raises(self, BadSteps, {"index": None}, function, [], number)
                check_raises(self, BadSteps, {"index": 3}, function, wide + (None,), number)
        for value in NO_PRICES:
            check_raises(self, BadPrice, {}, before, wide, value)
        for value in NO_NUMBERS:
            check_raises(self, BadNumber, {}, missing, wide, value)
            check_raises(self, BadNumber, {}, stays, wide, value)


class TestGeneral(unittest.TestCase):
    def test_repeated_calls(self):
        for _ in range(3):
            with self.assertRaises(BadNumber):
                missing(HALF, 0)
            self.assertEqual(before(HALF, 3), (6, 7))
            self.assertEqual(missing(DOUBLE, 3), [1, 3, 5])
            self.assertEqual(stays((("even", 4, "near"),), 3), [0, 4, 8])

    def test_new_lists(self):
        for function, steps in ((missing, DOUBLE), (stays, (("even", 4, "near"),)), (missing, HALF)):
            first = function(steps, 3)
            kept = list(first)
            first.append(7)
            first[0] = None
            self.assertEqual(function(steps, 3), kept)


if __name__ == "__main__":
    unittest.main()
