"""A till."""

from tillsteps.checks import check_price, check_steps
from tillsteps.errors import Full
from tillsteps.steps import final_price

MOST_PRICES = 40


class Till:
    """Rings prices up, each through the same steps, and can take back what it did."""

    def __init__(self, steps):
        check_steps(steps)
        self._steps = steps
        self._rung = ()
        # The prices as they stood ahead of each ringing up and each clearing that can be taken back.
        self._past = []

    @property
    def steps(self):
        """The steps."""
        return self._steps

    @property
    def prices(self):
        """The prices that are rung up, in order."""
        return self._rung

    def __len__(self):
        return len(self._rung)

    def ring(self, price):
        """Rings the price up, and returns its final price."""
        check_price(price)
        if len(self._rung) >= MOST_PRICES:
            raise Full()
        self._past.append(self._rung)
        self._rung = (*self._rung, price)
        return final_price(self._steps, price)

    def total(self):
        """The sum of the final prices."""
        return sum([final_price(self._steps, price) for price in self._rung])

    def at_once(self):
        """The final price of the sum of the prices."""
        return final_price(self._steps, sum(self._rung))

    def clear(self):
        """Takes all prices off, and returns what they cost."""
        cost = self.total()
        self._past.append(self._rung)
        self._rung = ()
        return cost

    def undo(self):
        """Takes back the last price or clearing, whichever came later, and returns whether there was one."""
        if not self._past:
            return False
        self._rung = self._past.pop()
        return True

    def copy(self):
        """An independent till that stands as this one, and can take back the same."""
        twin = Till(self._steps)
        twin._rung = self._rung
        twin._past = list(self._past)
        return twin
