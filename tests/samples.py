"""Values that several tests pass: what is a step, what is none, what is no price, and what is no number."""

from itertools import product

PLAIN_STEPS = [
    ("part", 0, "down"), ("part", 0, "near"), ("part", 1, "up"), ("part", 33, "down"), ("part", 50, "near"),
    ("part", 90, "up"), ("part", 100, "near"), ("part", 150, "down"), ("part", 200, "up"),
    ("add", -200), ("add", -7), ("add", 0), ("add", 13), ("add", 200),
    ("even", 2, "down"), ("even", 5, "near"), ("even", 10, "up"), ("even", 7, "near"), ("even", 100, "down"),
    ("least", 0), ("least", 30), ("least", 1000),
    ("most", 0), ("most", 45), ("most", 1000),
]

# Steps at the ends of every range.
END_STEPS = [
    ("part", 0, "up"), ("part", 200, "down"), ("add", -200), ("add", 200), ("even", 2, "up"), ("even", 100, "near"),
    ("least", 0), ("least", 1000), ("most", 0), ("most", 1000),
]

NO_STEPS_BESIDE_RANGES = [
    ("part", -1, "up"), ("part", 201, "down"), ("add", -201), ("add", 201), ("even", 1, "up"), ("even", 101, "near"),
    ("even", 0, "down"), ("even", -2, "up"), ("least", -1), ("least", 1001), ("most", -1), ("most", 1001),
    ("part", 10 ** 40, "up"), ("add", -10 ** 40), ("most", 10 ** 40),
]

NO_STEPS_BY_LENGTH = [
    (), ("part",), ("part", 90), ("part", 90, "up", 1), ("part", 90, "up", "up"), ("part", "up", 90),
    ("add",), ("add", 5, 5), ("add", 5, "up"), ("add", 5, None),
    ("even",), ("even", 5), ("even", 5, "up", "down"), ("even", "up", 5),
    ("least",), ("least", 5, "down"), ("most",), ("most", 5, "near"), (5,), (5, "add"),
]

NO_STEPS_BY_WORD = [
    ("sub", 5), ("", 5), ("Add", 5), ("ADD", 5), (" add", 5), ("add ", 5), ("ad", 5), ("parts", 90, "up"),
    ("Part", 90, "up"), ("round", 5, "up"), ("down", 5), ("up", 90, "part"), (0, 5), (True, 5), (False, 5), (None, 5),
    (("add",), 5), (["add"], 5), ({"add": 5}, 5), ({}, 5), ([], 5), ((), 5), (("add", 5), 5),
]

NO_STEPS_BY_RULE = [
    ("part", 90, "nearly"), ("part", 90, "nea"), ("part", 90, "Up"), ("part", 90, ""), ("part", 90, "even"),
    ("part", 90, None), ("part", 90, True), ("part", 90, False), ("part", 90, 0), ("part", 90, 1),
    ("part", 90, ("up",)), ("part", 90, ["up"]), ("part", 90, {"up": 1}), ("part", 90, ()), ("part", 90, "down up"),
    ("even", 5, "nearly"), ("even", 5, "UP"), ("even", 5, ""), ("even", 5, None), ("even", 5, True), ("even", 5, 2),
    ("even", 5, ("down",)), ("even", 5, ["down"]), ("even", 5, {}), ("even", 5, "do"),
]

NO_STEPS_BY_NUMBER = [
    (word, number) + rest
    for word, rest in (("part", ("up",)), ("even", ("down",)), ("add", ()), ("least", ()), ("most", ()))
    for number in (True, False, None, "5", "", (5,), [5], {5: 5}, {}, (), [], ((5,),))
]

NO_STEPS_BY_KIND = [
    None, True, False, 0, 5, -1, "", "add", "add 5", "ab", "abc", [], ["add", 5], ["part", 90, "up"],
    {}, {"add": 5}, {"part": 90, "up": 0}, {0: "add", 1: 5}, (("add", 5),), (("add", 5), ("add", 5)), [("add", 5)],
]

NO_STEPS = (
    NO_STEPS_BESIDE_RANGES + NO_STEPS_BY_LENGTH + NO_STEPS_BY_WORD
    + NO_STEPS_BY_RULE + NO_STEPS_BY_NUMBER + NO_STEPS_BY_KIND
)

# What is no tuple of at most 6 things, whatever the things are.
NO_TUPLES = [
    None, True, False, 0, 5, -1, "", "add 5", "steps", [], [("add", 5)], [["add", 5]], {}, {("add", 5): 1},
    {0: ("add", 5)}, (("add", 5),) * 7, (None,) * 7, (("add", 5),) * 6 + (None,), (None,) + (("add", 5),) * 6,
    (("most", 9),) * 50,
]

NO_PRICES = [
    -1, -5, -10 ** 30, 10 ** 30 + 1, 10 ** 31, 10 ** 60, True, False, None, "", "5", "price", (), (5,), [], [5],
    {}, {5: 5}, ((5,),), [[5]],
]

# What is no tuple of 1 to 6 things, whatever the things are.
NO_PRICE_TUPLES = [
    None, True, False, 0, 5, -1, "", "5", "5, 6", [], [5], [5, 6], [(5,)], {}, {5: 6}, {(5,): 1}, (),
    (5,) * 7, (None,) * 7, (5,) * 6 + (None,), (None,) + (5,) * 6, (5,) * 50,
]

# What is no number of things that can be asked for.
NO_NUMBERS = [
    0, 51, -1, -50, 100, 10 ** 30, -10 ** 30, True, False, None, "", "5", "50", "many", (), (5,), [], [5], {}, {5: 5},
    ((5,),), [[5]],
]

# Steps whose bounds and widths are so small that a few hundred prices show all that a row of two of them does.
SMALL_STEPS = [
    ("part", 0, "up"), ("part", 50, "down"), ("part", 50, "up"), ("part", 150, "near"), ("part", 200, "down"),
    ("add", -7), ("add", 0), ("add", 3), ("even", 2, "near"), ("even", 3, "up"), ("least", 0), ("least", 5),
    ("most", 4), ("most", 9),
]

SMALL_ROWS = [()] + [row for count in (1, 2) for row in product(SMALL_STEPS, repeat=count)]

# A step that reaches 1 at 10 ** 10, and rows of the width 1 whose bounds lie as far.
HUNDREDTH = ("part", 1, "down")
FAR_FLAT = (HUNDREDTH,) * 5 + (("most", 1000),)

# Rows of these widths: the first ones can be decided, the others cannot.
WIDE_ROWS = [
    ((("part", 1, "up"), ("part", 1, "near"), ("even", 2, "down")), 20000),
    ((("even", 81, "up"), ("even", 13, "up"), ("even", 17, "up")), 17901),
    ((("even", 100, "down"), ("even", 99, "near"), ("add", 5), ("even", 8, "up")), 19800),
]
TOO_WIDE_ROWS = [
    ((("even", 81, "up"), ("even", 13, "up"), ("even", 19, "up")), 20007),
    ((("part", 1, "up"), ("part", 1, "near"), ("even", 3, "down")), 30000),
    ((("part", 1, "up"), ("part", 1, "up"), ("part", 50, "down")), 1000000),
    ((HUNDREDTH,) * 6, 10 ** 12),
]
