"""What steps make of a price."""

from tillsteps.checks import check_price, check_steps


def rounded(number, divisor, rule):
    """The quotient of the two, rounded by the rule."""
    if rule == "down":
        return number // divisor
    if rule == "up":
        return -(-number // divisor)
    # A half more, rounded down, is the nearer one, and the one above if both are as near.
    return (2 * number + divisor) // (2 * divisor)


def price_behind(step, price):
    """What the step makes of the price."""
    word = step[0]
    number = step[1]
    if word == "part":
        return rounded(price * number, 100, step[2])
    if word == "add":
        return max(0, price + number)
    if word == "even":
        return rounded(price, number, step[2]) * number
    if word == "least":
        return max(price, number)
    return min(price, number)


def final_price(steps, price):
    """The final price of a price that may be beyond what can be passed."""
    reached = price
    for step in steps:
        reached = price_behind(step, reached)
    return reached


def pay(steps, price):
    """The final price of the price."""
    check_steps(steps)
    check_price(price)
    return final_price(steps, price)


def trail(steps, price):
    """The price, and what it is behind each step."""
    check_steps(steps)
    check_price(price)
    reached = [price]
    for step in steps:
        reached.append(price_behind(step, reached[-1]))
    return reached
