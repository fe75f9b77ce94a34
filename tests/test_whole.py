"""What the document promises over the whole program: its interface, and how all functions behave."""

import copy
import inspect
import unittest
from importlib import import_module

from tests.samples import HUNDREDTH, NO_STEPS
from tests.wrong import check_raises
from tillsteps.errors import BadNumber, BadPrice, BadPrices, BadSteps, TillError, TooMany, TooWide
from tillsteps.tills import Till

GREAT = 10 ** 30
OFF, LESS = ("part", 50, "down"), ("add", -10)

# Each function of the interface by its module, with the names of its arguments.
INTERFACE = {
    "steps": {"pay": ["steps", "price"], "trail": ["steps", "price"]},
    "far": {"width": ["steps"], "slope": ["steps"]},
    "parting": {"same": ["one", "other"], "parts": ["one", "other"], "apart": ["one", "other"], "needless": ["steps"]},
    "leading": {"before": ["steps", "final"], "missing": ["steps", "many"], "stays": ["steps", "many"]},
    "orders": {"lots": ["steps"], "always_cheapest": ["steps"], "cheapest": ["steps", "price"]},
    "texts": {"write": ["steps"], "read": ["text"]},
    "again": {"settles": ["steps"], "ends_at": ["steps", "price"], "rounds": ["steps", "price"]},
    "baskets": {"split_gap": ["steps"], "best_split": ["steps", "prices"], "split_pair": ["steps"],
                "join_pair": ["steps"]},
    "choices": {"needed_orders": ["steps"], "greatest_saving": ["steps"]},
}

METHODS = {"ring": ["price"], "total": [], "at_once": [], "clear": [], "undo": [], "copy": []}

FIELDS = {"BadSteps": ["index"], "BadPrice": [], "BadNumber": [], "TooWide": ["most"], "TooMany": ["most"], "Full": [],
          "InvalidText": ["line", "word"], "BadPrices": ["index"]}

# What can be passed for an argument, and what raises which error there.
FINE = {"steps": (OFF, LESS), "one": (OFF, LESS), "other": (LESS, OFF), "price": 100, "final": 7, "many": 5,
        "prices": (4, 5, 9), "text": "part 50 down\nadd -10"}
WRONG = {
    "price": (BadPrice, [-1, GREAT + 1, True, False, None, "5", [5], {}]),
    "final": (BadPrice, [-1, GREAT + 1, True, False, None, "5", [5], {}]),
    "many": (BadNumber, [0, 51, True, False, None, "5", [5], {}]),
    "prices": (BadPrices, [(), [4, 5], (4,) * 7, None, {4: 5}, "45"]),
}
STEP_ARGUMENTS = ("steps", "one", "other")
OF_ORDERS = ("lots", "always_cheapest", "cheapest", "needed_orders", "greatest_saving")
NEVER_TOO_WIDE = ("pay", "trail", "width", "slope", "cheapest", "write", "read", "best_split")


def function_of(module, name):
    return getattr(import_module("tillsteps." + module), name)


def all_functions():
    return [(function_of(module, name), names) for module, told in INTERFACE.items() for name, names in told.items()]


def spoilt(value):
    """Changes what is returned wherever it can be changed."""
    if isinstance(value, list):
        for thing in value:
            spoilt(thing)
        value.append("spoilt")
        value[0] = None


class TestInterface(unittest.TestCase):
    def test_functions(self):
        for module, told in INTERFACE.items():
            for name, names in told.items():
                with self.subTest(name=name):
                    function = function_of(module, name)
                    self.assertTrue(inspect.isfunction(function))
                    self.assertEqual(function.__module__, "tillsteps." + module)
                    self.assertEqual(function.__name__, name)
                    self.assertEqual(list(inspect.signature(function).parameters), names)

    def test_till(self):
        self.assertEqual(Till.__module__, "tillsteps.tills")
        self.assertEqual(list(inspect.signature(Till).parameters), ["steps"])
        for name, names in METHODS.items():
            self.assertIn(name, vars(Till))
            self.assertEqual(list(inspect.signature(vars(Till)[name]).parameters), ["self"] + names)
        for name in ("steps", "prices"):
            self.assertIsInstance(vars(Till)[name], property)
        self.assertIn("__len__", vars(Till))

    def test_errors(self):
        errors = import_module("tillsteps.errors")
        self.assertEqual(TillError.__bases__, (ValueError,))
        for name, fields in FIELDS.items():
            error = getattr(errors, name)
            self.assertEqual((error.__module__, error.__bases__), ("tillsteps.errors", (TillError,)))
            made = error(*range(len(fields)))
            self.assertEqual(vars(made), {field: value for value, field in enumerate(fields)})


class TestAllFunctions(unittest.TestCase):
    def test_arguments_stay_and_calls_repeat(self):
        for function, names in all_functions():
            with self.subTest(function=function.__name__):
                arguments = [FINE[name] for name in names]
                kept = copy.deepcopy(arguments)
                first = function(*arguments)
                told = copy.deepcopy(first)
                spoilt(first)
                for _ in range(2):
                    again = function(*arguments)
                    self.assertEqual(again, told)
                    self.assertIs(type(again), type(told))
                self.assertEqual(arguments, kept)
                self.assertEqual(function(**dict(zip(names, arguments))), told)

    def test_returned_lists_are_new(self):
        for module, name in (("steps", "trail"), ("parting", "needless"), ("leading", "missing"),
                             ("leading", "stays"), ("orders", "lots"), ("orders", "always_cheapest")):
            function = function_of(module, name)
            arguments = [FINE[argument] for argument in INTERFACE[module][name]]
            first, again = function(*arguments), function(*arguments)
            self.assertIs(type(first), list)
            self.assertIsNot(first, again)
            self.assertEqual(first, again)
        first, again = function_of("orders", "lots")((OFF, LESS)), function_of("orders", "lots")((OFF, LESS))
        for lot, other in zip(first, again):
            self.assertIsNot(lot, other)

    def test_all_other_values_cannot_be_changed(self):
        for function, names in all_functions():
            found = function(*[FINE[name] for name in names])
            if not isinstance(found, list):
                self.assertIsInstance(hash(found), int, function.__name__)

    def test_no_steps(self):
        some = NO_STEPS[::7] + [("add", True), ("least", False), ("part", True, "up"), ("even", 5, True)]
        for function, names in all_functions():
            for at, name in enumerate(names):
                if name in STEP_ARGUMENTS:
                    arguments = [FINE[other] for other in names]
                    for value in (None, True, 5, "add 5", [], [OFF], {}, (OFF,) * 7, (None,) * 7):
                        arguments[at] = value
                        check_raises(self, BadSteps, {"index": None}, function, *arguments)
                    for value in some:
                        arguments[at] = (OFF, value, None)
                        check_raises(self, BadSteps, {"index": 1}, function, *arguments)

    def test_no_price_and_no_number(self):
        for function, names in all_functions():
            for at, name in enumerate(names):
                if name in WRONG:
                    error, values = WRONG[name]
                    fields = {"index": None} if error is BadPrices else {}
                    for value in values:
                        arguments = [FINE[other] for other in names]
                        arguments[at] = value
                        check_raises(self, error, fields, function, *arguments)

    def test_errors_in_their_order(self):
        """Too wide rows and wrong values in all places at once, and then one fault less each time."""
        wide = (HUNDREDTH,) * 4
        for function, names in all_functions():
            if names[-1] not in WRONG:
                continue
            error, values = WRONG[names[-1]]
            fields = {"index": None} if error is BadPrices else {}
            for value in values:
                check_raises(self, BadSteps, {"index": 4}, function, wide + (None,), value)
                if function.__name__ in OF_ORDERS:
                    check_raises(self, TooMany, {"most": 4}, function, wide + (OFF,), value)
                check_raises(self, error, fields, function, wide, value)

    def test_first_row_ahead_of_the_other(self):
        for name in ("same", "parts", "apart"):
            function = function_of("parting", name)
            check_raises(self, BadSteps, {"index": 3}, function, (HUNDREDTH,) * 3 + (5,), None)
            check_raises(self, BadSteps, {"index": None}, function, None, (HUNDREDTH, 5))
            check_raises(self, BadSteps, {"index": 1}, function, (HUNDREDTH,) * 6, (HUNDREDTH, 5))

    def test_too_wide(self):
        wide = (HUNDREDTH,) * 4
        for function, names in all_functions():
            arguments = [wide if name in STEP_ARGUMENTS else FINE[name] for name in names]
            if function.__name__ in NEVER_TOO_WIDE:
                function(*arguments)
            else:
                check_raises(self, TooWide, {"most": 20000}, function, *arguments)

    def test_too_many(self):
        for function, names in all_functions():
            arguments = [(("add", 1),) * 5 if name in STEP_ARGUMENTS else FINE[name] for name in names]
            if function.__name__ in OF_ORDERS:
                check_raises(self, TooMany, {"most": 4}, function, *arguments)
            else:
                function(*arguments)

    def test_errors_change_nothing(self):
        told = [function(*[FINE[name] for name in names]) for function, names in all_functions()]
        for function, names in all_functions():
            if names != ["text"]:
                with self.assertRaises(TillError):
                    function(*[None] * len(names))
        self.assertEqual([function(*[FINE[name] for name in names]) for function, names in all_functions()], told)


class TestTillLists(unittest.TestCase):
    def test_tills_that_fail_stay(self):
        till = Till((OFF, LESS))
        till.ring(100)
        for value in WRONG["price"][1]:
            check_raises(self, BadPrice, {}, till.ring, value)
        self.assertEqual([till.steps, till.prices, till.total(), till.at_once()], [(OFF, LESS), (100,), 40, 40])
        self.assertEqual([till.undo(), till.undo()], [True, False])


if __name__ == "__main__":
    unittest.main()
