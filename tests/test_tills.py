import copy
import unittest
from itertools import product

from tests.samples import NO_PRICES, NO_STEPS, NO_TUPLES, TOO_WIDE_ROWS
from tests.wrong import check_raises
from tillsteps.errors import BadPrice, BadSteps, Full
from tillsteps.steps import pay
from tillsteps.tills import Till

GREAT = 10 ** 30
HALF = (("part", 50, "up"),)
FEE = (("part", 90, "near"), ("add", -5), ("least", 20))


class TillCase(unittest.TestCase):
    def check(self, till, steps, prices):
        """Fails unless the till has these steps and prices, and tells of them what the document says."""
        self.assertEqual(till.steps, steps)
        self.assertEqual(till.prices, prices)
        self.assertEqual((type(till.steps), type(till.prices)), (tuple, tuple))
        self.assertEqual(len(till), len(prices))
        self.assertEqual(till.total(), sum(pay(steps, price) for price in prices))
        self.assertEqual(till.at_once(), pay(steps, sum(prices)))

    def rung(self, steps, *prices):
        till = Till(steps)
        for price in prices:
            till.ring(price)
        return till


class TestExamples(TillCase):
    def test_interface(self):
        till = Till(HALF)
        self.assertEqual([till.ring(3), till.ring(5), till.total(), till.at_once(), till.clear(), len(till)],
                         [2, 3, 5, 4, 5, 0])
        self.assertIs(till.undo(), True)
        self.assertIs(till.undo(), True)
        self.assertEqual(till.prices, (3,))
        with self.assertRaises(BadPrice):
            till.ring(-1)

    def test_defined_where_listed(self):
        self.assertEqual(Till.__module__, "tillsteps.tills")
        for name in ("ring", "total", "at_once", "clear", "undo", "copy", "steps", "prices", "__len__"):
            self.assertIn(name, vars(Till))
        self.assertIsInstance(vars(Till)["steps"], property)
        self.assertIsInstance(vars(Till)["prices"], property)


class TestRinging(TillCase):
    def test_nothing(self):
        for steps in ((), HALF, FEE):
            self.check(Till(steps), steps, ())
        self.assertEqual([Till(FEE).total(), Till(FEE).at_once()], [0, 20])

    def test_prices_in_order(self):
        till = Till(FEE)
        prices = ()
        for price in (45, 3, 100, 3, 0, 77):
            self.assertEqual(till.ring(price), pay(FEE, price))
            prices += (price,)
            self.check(till, FEE, prices)

    def test_any_steps(self):
        for steps, _ in TOO_WIDE_ROWS:
            self.check(self.rung(steps, 10 ** 13, 7, 10 ** 20), steps, (10 ** 13, 7, 10 ** 20))

    def test_great_prices(self):
        till = Till((("part", 50, "down"),))
        self.assertEqual(till.ring(GREAT), GREAT // 2)
        self.assertEqual(till.ring(GREAT - 1), GREAT // 2 - 1)
        self.assertEqual(till.ring(GREAT - 1), GREAT // 2 - 1)
        self.assertEqual(till.total(), 3 * GREAT // 2 - 2)
        self.assertEqual(till.at_once(), 3 * GREAT // 2 - 1)
        till = self.rung((("add", 1),), *(GREAT,) * 40)
        self.assertEqual([till.total(), till.at_once()], [40 * GREAT + 40, 40 * GREAT + 1])
        self.assertEqual(till.clear(), 40 * GREAT + 40)

    def test_full(self):
        till = Till(HALF)
        for count in range(40):
            self.assertEqual(len(till), count)
            self.assertEqual(till.ring(count), (count + 1) // 2)
        prices = tuple(range(40))
        for _ in range(2):
            check_raises(self, Full, {}, till.ring, 5)
            self.check(till, HALF, prices)
        self.assertIs(till.undo(), True)
        self.check(till, HALF, prices[:39])
        self.assertEqual(till.ring(GREAT), GREAT // 2)
        check_raises(self, Full, {}, till.ring, 0)
        till.clear()
        self.assertEqual(till.ring(8), 4)
        till.undo()
        till.undo()
        self.assertEqual(till.prices, prices[:39] + (GREAT,))
        check_raises(self, Full, {}, till.ring, 0)

    def test_properties_are_only_read(self):
        till = self.rung(HALF, 3)
        for name in ("steps", "prices"):
            with self.assertRaises(AttributeError):
                setattr(till, name, ())
        self.check(till, HALF, (3,))


class TestClear(TillCase):
    def test_with_prices(self):
        till = self.rung(FEE, 45, 3)
        self.assertEqual(till.clear(), 56)
        self.check(till, FEE, ())

    def test_without_prices(self):
        till = Till(FEE)
        self.assertEqual([till.clear(), till.clear()], [0, 0])
        self.check(till, FEE, ())

    def test_goes_on(self):
        till = self.rung(HALF, 3, 5)
        till.clear()
        self.assertEqual(till.ring(7), 4)
        self.check(till, HALF, (7,))
        self.assertEqual(till.clear(), 4)


class TestUndo(TillCase):
    def test_behind_nothing(self):
        till = Till(HALF)
        self.assertIs(till.undo(), False)
        self.assertIs(till.undo(), False)
        self.check(till, HALF, ())
        till.ring(3)
        self.check(till, HALF, (3,))

    def test_behind_ring(self):
        till = self.rung(HALF, 3, 5, 5)
        for prices in ((3, 5), (3,), ()):
            self.assertIs(till.undo(), True)
            self.check(till, HALF, prices)
        self.assertIs(till.undo(), False)

    def test_behind_clear(self):
        till = self.rung(HALF, 3, 5)
        till.clear()
        self.assertIs(till.undo(), True)
        self.check(till, HALF, (3, 5))

    def test_behind_clear_of_nothing(self):
        till = Till(HALF)
        till.clear()
        till.clear()
        self.assertEqual([till.undo(), till.undo(), till.undo()], [True, True, False])
        till.ring(3)
        till.clear()
        till.clear()
        self.assertIs(till.undo(), True)
        self.check(till, HALF, ())
        self.assertIs(till.undo(), True)
        self.check(till, HALF, (3,))

    def test_several_clearings(self):
        till = self.rung(HALF, 1, 2)
        till.clear()
        till.ring(3)
        till.clear()
        till.ring(4)
        for prices in ((), (3,), (), (1, 2), (1,), ()):
            self.assertIs(till.undo(), True)
            self.check(till, HALF, prices)
        self.assertIs(till.undo(), False)

    def test_goes_on(self):
        till = self.rung(HALF, 1, 2)
        till.clear()
        till.undo()
        till.undo()
        till.ring(9)
        self.check(till, HALF, (1, 9))
        for prices in ((1,), ()):
            self.assertIs(till.undo(), True)
            self.check(till, HALF, prices)
        self.assertIs(till.undo(), False)

    def test_what_is_refused_is_not_taken_back(self):
        till = self.rung(HALF, 3)
        with self.assertRaises(BadPrice):
            till.ring(None)
        self.assertIs(till.undo(), True)
        self.check(till, HALF, ())
        self.assertIs(till.undo(), False)

    def test_asking_is_not_taken_back(self):
        till = self.rung(HALF, 3, 4)
        asked = (till.total(), till.at_once(), till.steps, till.prices, len(till), till.copy())
        self.assertEqual(asked[:5], (4, 4, HALF, (3, 4), 2))
        self.assertIs(till.undo(), True)
        self.check(till, HALF, (3,))

    def test_all_back_to_the_first(self):
        till = Till(HALF)
        for _ in range(5):
            for price in range(40):
                till.ring(price)
            till.clear()
        for _ in range(5 * 41):
            self.assertIs(till.undo(), True)
        self.assertIs(till.undo(), False)
        self.check(till, HALF, ())

    def test_as_told_by_what_is_left_to_take_back(self):
        """All rows of what can be done, beside a list of what is not taken back yet."""
        for row in product((3, 8, "clear", "undo", "copy"), repeat=5):
            till, done = Till(FEE), []
            for what in row:
                if what == "clear":
                    self.assertEqual(till.clear(), sum(pay(FEE, price) for price in self.left(done)), row)
                    done.append(what)
                elif what == "undo":
                    self.assertIs(till.undo(), len(done) > 0, row)
                    done = done[:-1]
                elif what == "copy":
                    till = till.copy()
                else:
                    self.assertEqual(till.ring(what), pay(FEE, what), row)
                    done.append(what)
                self.assertEqual(till.prices, self.left(done), row)
            self.check(till, FEE, self.left(done))

    def left(self, done):
        prices = ()
        for what in done:
            prices = () if what == "clear" else prices + (what,)
        return prices


class TestCopy(TillCase):
    def test_stands_as_the_till(self):
        for prices in ((), (3,), (3, 5, 5)):
            till = self.rung(HALF, *prices)
            twin = till.copy()
            self.assertIs(type(twin), Till)
            self.assertIsNot(twin, till)
            self.check(twin, HALF, prices)
            self.check(till, HALF, prices)

    def test_goes_on_by_itself(self):
        till = self.rung(HALF, 3)
        twin = till.copy()
        twin.ring(5)
        self.check(till, HALF, (3,))
        till.ring(7)
        till.ring(9)
        self.check(twin, HALF, (3, 5))
        twin.clear()
        self.check(till, HALF, (3, 7, 9))
        till.undo()
        self.check(till, HALF, (3, 7))
        self.check(twin, HALF, ())

    def test_takes_back_the_same(self):
        till = self.rung(HALF, 1, 2)
        till.clear()
        till.ring(3)
        twin = till.copy()
        for one in (till, twin, twin.copy()):
            one.ring(4)
            for prices in ((3,), (), (1, 2), (1,), ()):
                self.assertIs(one.undo(), True)
                self.check(one, HALF, prices)
            self.assertIs(one.undo(), False)
            one.ring(8)
        self.check(twin, HALF, (8,))

    def test_takes_back_by_itself(self):
        till = self.rung(HALF, 1, 2)
        twin = till.copy()
        self.assertEqual([twin.undo(), twin.undo(), twin.undo()], [True, True, False])
        self.check(till, HALF, (1, 2))
        self.assertEqual([till.undo(), till.undo(), till.undo()], [True, True, False])

    def test_full(self):
        till = self.rung(HALF, *range(40))
        twin = till.copy()
        check_raises(self, Full, {}, twin.ring, 5)
        twin.undo()
        self.assertEqual(twin.ring(5), 3)
        self.check(till, HALF, tuple(range(40)))

    def test_of_nothing(self):
        twin = Till(()).copy()
        self.assertIs(twin.undo(), False)
        self.check(twin, (), ())


class TestWrongValues(TillCase):
    def test_no_steps(self):
        for value in NO_TUPLES:
            check_raises(self, BadSteps, {"index": None}, Till, value)
        for value in NO_STEPS:
            check_raises(self, BadSteps, {"index": 0}, Till, (value,))
            check_raises(self, BadSteps, {"index": 2}, Till, (("add", 5), ("most", 3), value, None))

    def test_no_price(self):
        till = self.rung(HALF, 3)
        till.clear()
        till.ring(5)
        for price in NO_PRICES:
            kept = copy.deepcopy(price)
            with self.assertRaises(BadPrice):
                till.ring(price)
            self.assertEqual(price, kept)
            self.check(till, HALF, (5,))
        self.assertEqual([till.undo(), till.undo(), till.prices], [True, True, (3,)])

    def test_price_ahead_of_full(self):
        till = self.rung(HALF, *range(40))
        for price in NO_PRICES:
            with self.assertRaises(BadPrice):
                till.ring(price)
        for price in (0, 5, GREAT):
            check_raises(self, Full, {}, till.ring, price)
        self.check(till, HALF, tuple(range(40)))
        self.assertIs(till.undo(), True)
        self.check(till, HALF, tuple(range(39)))

    def test_ends_of_the_range(self):
        till = Till(())
        self.assertEqual([till.ring(0), till.ring(GREAT)], [0, GREAT])
        for price in (-1, GREAT + 1):
            check_raises(self, BadPrice, {}, till.ring, price)
        self.check(till, (), (0, GREAT))


class TestGeneral(TillCase):
    def test_repeated_calls(self):
        till = self.rung(FEE, 45, 3)
        for _ in range(3):
            self.check(till, FEE, (45, 3))

    def test_tills_are_independent(self):
        one, other = Till(HALF), Till(HALF)
        one.ring(3)
        self.check(other, HALF, ())
        self.assertIs(other.undo(), False)
        self.check(one, HALF, (3,))


if __name__ == "__main__":
    unittest.main()
