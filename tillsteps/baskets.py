"""What prices cost apart and together."""

from tillsteps.again import settles
from tillsteps.checks import check_prices, check_steps
from tillsteps.errors import TooWide
from tillsteps.far import width
from tillsteps.steps import final_price

GREATEST_REACH = 400


def telling_finals(steps):
    """The final prices from that of 0 on, as many as tell all of any two prices; raises BadSteps or TooWide.

    The reach is how far prices go until they have settled and gone on by a width. A price beyond it makes the same
    difference as the one that is less by the width, so that two prices below it show all; their sum is below twice it.
    """
    reach = settles(steps) + width(steps)[0]
    if reach > GREATEST_REACH:
        raise TooWide(GREATEST_REACH)
    return [final_price(steps, price) for price in range(2 * reach)]


def split_gap(steps):
    """The least and the greatest number that apart, less together, comes to for any two prices."""
    finals = telling_finals(steps)
    reach = len(finals) // 2
    gaps = []
    for x in range(reach):
        for y in range(x, reach):
            gaps.append(finals[x] + finals[y] - finals[x + y])
    return min(gaps), max(gaps)


def first_pair(steps, sign):
    """The first two prices for which apart, less together, times the sign is above 0, None if there are none.

    They are the ones with the least sum, and of those the ones with the least price; the lesser one stands first.
    """
    finals = telling_finals(steps)
    for total, together in enumerate(finals):
        for x in range(total // 2 + 1):
            if (finals[x] + finals[total - x] - together) * sign > 0:
                return x, total - x
    return None


def split_pair(steps):
    """The first two prices that cost less apart than together, None if there are none."""
    return first_pair(steps, -1)


def join_pair(steps):
    """The first two prices that cost more apart than together, None if there are none."""
    return first_pair(steps, 1)


def partings(many):
    """All partings of so many indexes into lots, each an ascending tuple of ascending tuples."""
    found = [()]
    for index in range(many):
        longer = []
        for lots in found:
            longer.append((*lots, (index,)))
            for at, lot in enumerate(lots):
                longer.append(lots[:at] + ((*lot, index),) + lots[at + 1:])
        found = longer
    return found


def cost_of_lots(steps, prices, lots):
    """What all lots cost, each at the final price of its sum."""
    return sum([final_price(steps, sum([prices[index] for index in lot])) for lot in lots])


def best_split(steps, prices):
    """The least that all lots can cost, and the least parting of the prices into lots that costs so much."""
    check_steps(steps)
    check_prices(prices)
    return min([(cost_of_lots(steps, prices, lots), lots) for lots in partings(len(prices))])
