"""All orders of steps: which cost the same, and which are the cheapest."""

from itertools import permutations

from tillsteps.checks import check_ordered_steps, check_price
from tillsteps.far import common_width
from tillsteps.runs import run_starts
from tillsteps.steps import final_price


def all_orders(steps):
    """All orders of the steps, ascending."""
    return list(permutations(range(len(steps))))


def in_order(steps, order):
    """The steps in this order."""
    return tuple([steps[index] for index in order])


def telling_prices(rows, wide):
    """Prices at which all is seen of which row is ever cheaper than which, if all have one slope.

    Without a slope, a row that is somewhere dearer is so at the first price of its run, too. With one, each row's
    final price is that of 0, or, where this is more, one that goes on by the common width on both sides: a row that
    is somewhere dearer is so at 0, or within each common width behind the bounds.
    """
    starts = [run_starts(row) for row in rows]
    far = max([row[-1] for row in starts])
    return sorted({start for row in starts for start in row}) + list(range(far, far + wide))


def telling_finals(rows):
    """For each of the rows the list of its final prices at the telling prices; raises TooWide."""
    prices = telling_prices(rows, common_width(rows))
    table = []
    for row in rows:
        table.append([final_price(row, price) for price in prices])
    return table


def lots(steps):
    """The ascending lots of orders that have the same final price for all prices."""
    check_ordered_steps(steps)
    orders = all_orders(steps)
    table = telling_finals([in_order(steps, order) for order in orders])
    found = {}
    for order, finals in zip(orders, table):
        found.setdefault(tuple(finals), []).append(order)
    return list(found.values())


def cheapest(steps, price):
    """The least final price by any order, and the least order by which the price has it."""
    check_ordered_steps(steps)
    check_price(price)
    return min([(final_price(in_order(steps, order), price), order) for order in all_orders(steps)])


def always_cheapest(steps):
    """The ascending orders by which no price has a greater final price than by any other order."""
    check_ordered_steps(steps)
    orders = all_orders(steps)
    table = telling_finals([in_order(steps, order) for order in orders])
    least = [min(finals) for finals in zip(*table)]
    return [order for order, finals in zip(orders, table) if finals == least]
