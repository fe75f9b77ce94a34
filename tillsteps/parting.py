"""Whether two rows of steps cost the same, where they part, and how far they are apart."""

from tillsteps.checks import check_steps
from tillsteps.far import common_width, slope
from tillsteps.runs import run_starts
from tillsteps.steps import final_price


def difference(one, other, price):
    """The final price by one, less that by other."""
    return final_price(one, price) - final_price(other, price)


def telling_prices(one, other, wide):
    """Ascending prices at which all is seen of the difference between the two, wide being a common width.

    Between two of them that are no neighbours one of the rows stays in one run, so that the difference only rises
    there, or only falls. The last ones are a common width, and one more, of prices from which on both go on by it.
    """
    # The runs of the row that settles later are all known up to where both have settled.
    starts = max(run_starts(one), run_starts(other), key=lambda found: found[-1])
    far = starts[-1]
    told = []
    for start, behind in zip(starts, starts[1:]):
        told.append(start)
        told.append(behind - 1)
    return told + list(range(far, far + wide + 1))


def first_parting(one, other, low, high):
    """The least price with a difference, if there is none at low, one at high, and it only rises or only falls."""
    alike, parted = low, high
    while parted - alike > 1:
        middle = (alike + parted) // 2
        if difference(one, other, middle) == 0:
            alike = middle
        else:
            parted = middle
    return parted


def least_parting(one, other, wide):
    """The least price for which the final prices are not the same, None if there is none."""
    # The first telling price is 0: if they part there, none is left to look at.
    alike = -1
    for price in telling_prices(one, other, wide):
        if difference(one, other, price) != 0:
            return first_parting(one, other, alike, price)
        alike = price
    return None


def same(one, other):
    """Whether both have the same final price for all prices."""
    return parts(one, other) is None


def parts(one, other):
    """The least price for which both do not have the same final price, None if there is none."""
    return least_parting(one, other, common_width((one, other)))


def apart(one, other):
    """The least and the greatest difference for any price, None for one that has no bound."""
    prices = telling_prices(one, other, common_width((one, other)))
    differences = [difference(one, other, price) for price in prices]
    rise, wide = slope(one)
    other_rise, other_wide = slope(other)
    # By the slopes the difference grows for ever, falls for ever, or repeats.
    growth = rise * other_wide - other_rise * wide
    least = None if growth < 0 else min(differences)
    greatest = None if growth > 0 else max(differences)
    return least, greatest


def needless(steps):
    """The ascending indexes of the steps without which, each left out alone, all final prices stay the same."""
    check_steps(steps)
    shorter = [steps[:index] + steps[index + 1:] for index in range(len(steps))]
    wide = common_width([steps] + shorter)
    return [index for index, row in enumerate(shorter) if least_parting(steps, row, wide) is None]
