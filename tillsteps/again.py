"""Prices that go through the steps again and again."""

from tillsteps.checks import check_price, check_steps
from tillsteps.far import common_width, width
from tillsteps.runs import run_starts
from tillsteps.steps import final_price


def settled_from(steps):
    """The least number from which on the width and the rise hold for all prices."""
    wide, rise = width(steps)
    far = run_starts(steps)[-1]
    if rise == 0:
        return far
    # With a rise, each price below the number that is looked for has the final price of 0, and the price greater by the
    # width has one that is greater by less than the rise: so the two hold from there on and for no price below.
    low, high = -1, far
    while high - low > 1:
        middle = (low + high) // 2
        if final_price(steps, middle + wide) == final_price(steps, middle) + rise:
            high = middle
        else:
            low = middle
    return high


def behind_cycles(steps, price, settled):
    """A price to which the price comes, and after how many times, if the width and the rise are the same.

    A settled price that is greater by the width then goes the same way, always greater by it. So a price that has come
    to one less by some widths falls by as much again and again: these cycles are counted, as long as they end at a
    settled price, but not gone through one by one.
    """
    wide = width(steps)[0]
    seen = {}
    reached, count = price, 0
    while reached >= settled and reached % wide not in seen:
        seen[reached % wide] = (reached, count)
        reached = final_price(steps, reached)
        count += 1
    if reached < settled:
        return reached, count
    first, count_of_first = seen[reached % wide]
    if first <= reached:
        return first, count_of_first
    cycles = (reached - settled) // (first - reached)
    return reached - cycles * (first - reached), count + cycles * (count - count_of_first)


def stay_and_rounds(steps, price):
    """The price that stays to which the price comes, and after how many times; None for both if it comes to none."""
    check_steps(steps)
    check_price(price)
    common_width((steps,))
    wide, rise = width(steps)
    reached, count = price, 0
    # Only here a great price may fall so slowly that its rounds cannot be gone through one by one.
    if wide == rise:
        reached, count = behind_cycles(steps, price, settled_from(steps))
    behind = final_price(steps, reached)
    # Behind one round a price that rises is settled, or stays. Where the rise is not less than the width, a price that
    # stays a width further up or more cannot be reached: the one less by the width does not rise, and is not passed.
    limit = behind + wide
    while behind != reached:
        if rise >= wide and behind > limit:
            return None, None
        reached, behind = behind, final_price(steps, behind)
        count += 1
    return reached, count


def settles(steps):
    """The least number from which on a price greater by the width has a final price greater by the rise."""
    check_steps(steps)
    common_width((steps,))
    return settled_from(steps)


def ends_at(steps, price):
    """The price that stays to which the price comes, None if it comes to none."""
    return stay_and_rounds(steps, price)[0]


def rounds(steps, price):
    """After how many times the price comes to a price that stays, None if it comes to none."""
    return stay_and_rounds(steps, price)[1]
