"""Runs: prices one behind the other that have the same final price."""

from tillsteps.far import width
from tillsteps.steps import final_price


def least_dividend(quotient, divisor, rule):
    """The least number that, divided by the divisor and rounded by the rule, makes at least the quotient."""
    if rule == "down":
        return quotient * divisor
    if rule == "up":
        return (quotient - 1) * divisor + 1
    return quotient * divisor - divisor // 2


def least_ahead(step, least):
    """The least price of which the step makes at least so much, None if there is none."""
    if least <= 0:
        return 0
    word = step[0]
    number = step[1]
    if word == "part":
        return None if number == 0 else -(-least_dividend(least, 100, step[2]) // number)
    if word == "add":
        return max(0, least - number)
    if word == "even":
        return least_dividend(-(-least // number), number, step[2])
    if word == "least":
        return 0 if least <= number else least
    return None if least > number else least


def first_reaching(steps, least):
    """The least price whose final price is at least so much, None if there is none."""
    # Final prices never fall, so that going back step by step loses no price.
    reached = least
    for step in reversed(steps):
        reached = least_ahead(step, reached)
        if reached is None:
            return None
    return reached


def run_starts(steps):
    """The first prices of the runs, ascending, up to one from which on the width and the rise hold.

    If there is a rise, these are 0 and the second run's first price: without "most" all bounds together only keep
    final prices from falling below that of 0. If there is none, they are those of all runs, at most 1001, since
    "most" leaves so many different prices at most, and "part" with 0 leaves one.
    """
    rises = width(steps)[1] > 0
    found = [0]
    start = first_reaching(steps, final_price(steps, 0) + 1)
    while start is not None:
        found.append(start)
        if rises:
            break
        start = first_reaching(steps, final_price(steps, start) + 1)
    return found


def run_starts_below(steps, bound):
    """The ascending first prices of all runs that begin below the bound."""
    found = []
    start = 0
    while start is not None and start < bound:
        found.append(start)
        start = first_reaching(steps, final_price(steps, start) + 1)
    return found
