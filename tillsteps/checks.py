"""What may be passed as steps, as a price, as prices, and as a number of things asked for."""

from tillsteps.errors import BadNumber, BadPrice, BadPrices, BadSteps, TooMany

MOST_STEPS = 6
MOST_ORDERED_STEPS = 4
GREATEST_PRICE = 10 ** 30
MOST_PARTED = 6
MOST_ASKED_FOR = 50
RULES = ("down", "up", "near")
RANGES = {"part": (0, 200), "add": (-200, 200), "even": (2, 100), "least": (0, 1000), "most": (0, 1000)}
RULED = ("part", "even")


def is_integer_within(value, low, high):
    """Whether value is an integer from low to high."""
    # Python counts True and False among its integers, the document does not.
    if isinstance(value, bool) or not isinstance(value, int):
        return False
    return low <= value <= high


def is_step(value):
    """Whether value is a step."""
    if not isinstance(value, tuple) or len(value) < 2:
        return False
    word = value[0]
    # Only what can be a key is looked up: a list or a dict cannot.
    if not isinstance(word, str) or word not in RANGES:
        return False
    low, high = RANGES[word]
    if not is_integer_within(value[1], low, high):
        return False
    if word in RULED:
        return len(value) == 3 and value[2] in RULES
    return len(value) == 2


def check_steps(steps):
    """Raises BadSteps if steps are none."""
    if not isinstance(steps, tuple) or len(steps) > MOST_STEPS:
        raise BadSteps(None)
    for index, thing in enumerate(steps):
        if not is_step(thing):
            raise BadSteps(index)


def is_price(value):
    """Whether value is a price that can be passed."""
    return is_integer_within(value, 0, GREATEST_PRICE)


def check_price(price):
    """Raises BadPrice if price is none."""
    if not is_price(price):
        raise BadPrice()


def check_prices(prices):
    """Raises BadPrices if prices are none that can be parted into lots."""
    if not isinstance(prices, tuple) or not 1 <= len(prices) <= MOST_PARTED:
        raise BadPrices(None)
    for index, thing in enumerate(prices):
        if not is_price(thing):
            raise BadPrices(index)


def check_ordered_steps(steps):
    """Raises BadSteps if steps are none, TooMany if they are too many to be put into all orders."""
    check_steps(steps)
    if len(steps) > MOST_ORDERED_STEPS:
        raise TooMany(MOST_ORDERED_STEPS)


def check_many(many):
    """Raises BadNumber if many is no number of things that can be asked for."""
    if not is_integer_within(many, 1, MOST_ASKED_FOR):
        raise BadNumber()
