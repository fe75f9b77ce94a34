"""How final prices go on behind all bounds."""

from math import gcd, lcm

from tillsteps.checks import check_steps
from tillsteps.errors import TooWide

GREATEST_WIDTH = 20000


def width_behind(step, wide, rise):
    """The width and the rise behind the step, from those ahead of it."""
    word = step[0]
    number = step[1]
    if rise == 0 or word == "most" or (word == "part" and number == 0):
        return 1, 0
    if word == "part":
        shared = gcd(100, rise)
        return 100 // shared * wide, rise // shared * number
    if word == "even":
        times = number // gcd(number, rise)
        return times * wide, times * rise
    return wide, rise


def width(steps):
    """The tuple of the width and of the rise of the steps."""
    check_steps(steps)
    wide, rise = 1, 1
    for step in steps:
        wide, rise = width_behind(step, wide, rise)
    return wide, rise


def slope(steps):
    """The rise divided by the width, without a common divisor."""
    wide, rise = width(steps)
    shared = gcd(rise, wide)
    return rise // shared, wide // shared


def common_width(rows):
    """The least multiple of the widths of all rows; raises BadSteps for the first that is none, or else TooWide."""
    common = 1
    for steps in rows:
        common = lcm(common, width(steps)[0])
    if common > GREATEST_WIDTH:
        raise TooWide(GREATEST_WIDTH)
    return common
