"""Which prices lead to a final price, which final prices there are not, and which prices stay."""

from tillsteps.checks import check_many, check_price, check_steps
from tillsteps.far import common_width, width
from tillsteps.runs import first_reaching, run_starts
from tillsteps.steps import final_price


def is_final(steps, number):
    """Whether the number is the final price of a price."""
    first = first_reaching(steps, number)
    return first is not None and final_price(steps, first) == number


def gone_on(found, count, by, many):
    """The first so many of found, if its last so many as count come again and again, greater by so much each time."""
    numbers = found[:many]
    while count > 0 and len(numbers) < many:
        numbers.append(numbers[-count] + by)
    return numbers


def before(steps, final):
    """The least and the greatest price with this final price, None for no greatest one, None if no price has it."""
    check_steps(steps)
    check_price(final)
    common_width((steps,))
    if not is_final(steps, final):
        return None
    behind = first_reaching(steps, final + 1)
    greatest = None if behind is None else behind - 1
    return first_reaching(steps, final), greatest


def missing(steps, many):
    """The ascending first integers that are no final price, so many at most."""
    check_steps(steps)
    check_many(many)
    common_width((steps,))
    rise = width(steps)[1]
    far = final_price(steps, run_starts(steps)[-1])
    found = []
    number = 0
    # From far on, what is missing comes again with each rise; without a rise, all is missing in the end.
    while len(found) < many and (rise == 0 or number < far + rise):
        if not is_final(steps, number):
            found.append(number)
        number += 1
    again = [absent for absent in found if absent >= far]
    return gone_on(found, len(again), rise, many)


def stays_in_runs(steps, starts):
    """The ascending prices that stay, up to the last one of the starts."""
    found = []
    for start, behind in zip(starts, starts[1:]):
        final = final_price(steps, start)
        if start <= final < behind:
            found.append(final)
    return found


def stays_from(steps, far):
    """The ascending prices that stay from far on, where the width and the rise hold and are not the same."""
    wide, rise = width(steps)
    found = []
    for price in range(far, far + wide):
        # With each width the final price gains as much on the price: it must catch up after whole widths.
        times, rest = divmod(final_price(steps, price) - price, wide - rise)
        if rest == 0 and times >= 0:
            found.append(price + times * wide)
    return sorted(found)


def stays(steps, many):
    """The ascending first prices that are their own final prices, so many at most."""
    check_steps(steps)
    check_many(many)
    common_width((steps,))
    wide, rise = width(steps)
    starts = run_starts(steps)
    far = starts[-1]
    found = stays_in_runs(steps, starts)
    if wide != rise:
        return (found + stays_from(steps, far))[:many]
    again = [price for price in range(far, far + wide) if final_price(steps, price) == price]
    return gone_on(found + again, len(again), wide, many)
