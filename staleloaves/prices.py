"""What loaves bring and cost, and the profit of a bakery."""

from staleloaves.courses import sum_repeated
from staleloaves.errors import InvalidPrices
from staleloaves.limits import MOST_LOAVES, check_number

MOST_CENTS = 10 ** 6
MOST_PROFIT_DAYS = 1000
MOST_GOAL = 10 ** 18


def check_price(part, cents):
    """Raises InvalidPrices if a price is out of range."""
    if cents < 0 or cents > MOST_CENTS:
        raise InvalidPrices(part)


class Prices:
    """What a sold loaf brings, what a baked one costs, and what one that is thrown away costs besides."""

    def __init__(self, sale, cost, waste):
        check_price("sale", sale)
        check_price("cost", cost)
        check_price("waste", waste)
        self._cents = (sale, cost, waste)

    @property
    def cents(self):
        """The tuple (sale, cost, waste)."""
        return self._cents

    def __call__(self, baked, sold, thrown):
        """Returns the profit for so many loaves."""
        sale, cost, waste = self._cents
        return sold * sale - baked * cost - thrown * waste

    def __add__(self, other):
        sale, cost, waste = self._cents
        more_sale, more_cost, more_waste = other._cents
        return Prices(sale + more_sale, cost + more_cost, waste + more_waste)

    def __mul__(self, times):
        sale, cost, waste = self._cents
        return Prices(sale * times, cost * times, waste * times)

    def __eq__(self, other):
        return isinstance(other, Prices) and self._cents == other._cents


def profit(bakery, prices, days):
    """Returns the profit of a bakery in the first so many days."""
    sold, _, thrown = bakery.totals(days)
    return prices(sum_repeated(bakery.bakes, days), sold, thrown)


def round_profit(bakery, prices):
    """Returns the profit of a bakery per round in the long run."""
    sold, _, thrown = bakery.long_run
    return prices(sum(bakery.bakes), sold, thrown)


def best_more(bakery, prices):
    """Returns a tuple (more, profit): the smallest change of each bake for the greatest profit per round."""
    low = -min(bakery.bakes)
    high = MOST_LOAVES - max(bakery.bakes)
    # What is sold per round in the long run is the least one of some bounds like those of judge_days, each of which
    # grows evenly with the change. So one loaf more on each day never adds more to the profit than the one before.
    while low < high:
        middle = (low + high) // 2
        here = round_profit(bakery.baking_more(middle), prices)
        if round_profit(bakery.baking_more(middle + 1), prices) > here:
            low = middle + 1
        else:
            high = middle
    return low, round_profit(bakery.baking_more(low), prices)


def first_profit(bakery, prices, goal):
    """Returns the smallest number of days with a profit of at least a goal, or None."""
    check_number(goal, 0, MOST_GOAL)
    for days in range(MOST_PROFIT_DAYS + 1):
        if profit(bakery, prices, days) >= goal:
            return days
    return None
