"""Which orders are needed, and what the choice of an order saves."""

from tillsteps.checks import check_ordered_steps
from tillsteps.far import common_width
from tillsteps.orders import all_orders, in_order
from tillsteps.runs import run_starts, run_starts_below
from tillsteps.steps import final_price


def rows_by_orders(steps):
    """The steps in each order; raises BadSteps, or else TooMany."""
    check_ordered_steps(steps)
    return [in_order(steps, order) for order in all_orders(steps)]


def changing_prices(rows):
    """The ascending prices at which the final price by a row changes, until all comes again; raises TooWide.

    The rows have one slope, so that all comes again with each common width behind the bounds of all rows: all final
    prices are greater by as much. From there on all prices are told, since most of them change something.
    """
    wide = common_width(rows)
    far = max([run_starts(row)[-1] for row in rows])
    return sorted({start for row in rows for start in run_starts_below(row, far)}) + list(range(far, far + wide))


def cheapest_places(rows, price):
    """The ascending places of the rows by which the price has its least final price."""
    finals = [final_price(row, price) for row in rows]
    least = min(finals)
    return tuple([place for place, final in enumerate(finals) if final == least])


def without_wider(groups):
    """The groups that contain no other one: who meets these, meets all."""
    found = []
    for group in sorted(groups, key=len):
        if not any([all([place in group for place in narrower]) for narrower in found]):
            found.append(group)
    return found


def least_meeting(groups, start, count):
    """The least ascending tuple of so many places from start on that meets all groups, None if there is none.

    Fewer places must be too few. The groups are ascending.
    """
    if not groups:
        return ()
    if count == 0:
        return None
    # Places are chosen ascending: one that is behind all places of a group comes too late for it.
    latest = min([group[-1] for group in groups])
    for place in range(start, latest + 1):
        left = [group for group in groups if place not in group]
        # A place that meets nothing can be left out, so that fewer would do.
        rest = None if len(left) == len(groups) else least_meeting(left, place + 1, count - 1)
        if rest is not None:
            return (place, *rest)
    return None


def smallest_meeting(many, groups):
    """The smallest ascending tuple of places below many that meets all groups, of several the least."""
    for count in range(many):
        chosen = least_meeting(groups, 0, count)
        if chosen is not None:
            return chosen
    return tuple(range(many))


def needed_orders(steps):
    """The smallest tuple of orders by one of which each price has its least final price, of several the least."""
    rows = rows_by_orders(steps)
    groups = {cheapest_places(rows, price): True for price in changing_prices(rows)}
    orders = all_orders(steps)
    return tuple([orders[place] for place in smallest_meeting(len(orders), without_wider(list(groups)))])


def greatest_saving(steps):
    """The most that a price's greatest final price is above its least one, and the least price for which it is."""
    rows = rows_by_orders(steps)
    most, where = 0, 0
    for price in changing_prices(rows):
        finals = [final_price(row, price) for row in rows]
        saving = max(finals) - min(finals)
        if saving > most:
            most, where = saving, price
    return most, where
