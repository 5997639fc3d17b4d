"""Rules that say every morning how many loaves are baked, and what comes of them."""

from staleloaves.bakeries import check_bakery
from staleloaves.errors import InvalidRule
from staleloaves.limits import MOST_LOAVES, check_number

MOST_RULE_DAYS = 10000


def check_part(part, number, lowest):
    """Raises InvalidRule if a number of a rule is not from the lowest one to the most loaves."""
    if number < lowest or number > MOST_LOAVES:
        raise InvalidRule(part)


class Rule:
    """Bakes the same amount every day. The other kinds of rules are derived from this one."""

    KIND = "fixed"

    def __init__(self, amount):
        check_part("amount", amount, 0)
        self._amount = amount

    def count_baked(self, day, stock, sold):
        """Returns how many loaves are baked, from the stock in the morning and the sales of the day before."""
        return self._amount


class RefillRule(Rule):
    """Bakes as many loaves as are missing to a goal."""

    KIND = "refill"

    def __init__(self, goal):
        check_part("goal", goal, 0)
        self._goal = goal

    def count_baked(self, day, stock, sold):
        """Returns how many loaves are baked, as Rule.count_baked does."""
        return max(0, self._goal - stock)


class SoldRule(Rule):
    """Bakes an amount on day 0, and then as many loaves as were sold on the day before, and some more or fewer."""

    KIND = "sold"

    def __init__(self, amount, *, more=0):
        super().__init__(amount)
        check_part("more", more, -MOST_LOAVES)
        self._more = more

    def count_baked(self, day, stock, sold):
        """Returns how many loaves are baked, as Rule.count_baked does."""
        if day == 0:
            return self._amount
        return max(0, min(MOST_LOAVES, sold + self._more))


def run(rule, demands, life, days):
    """Yields a tuple (baked, sold, missed, thrown) for each of the first so many days of a bakery with this rule."""
    check_bakery((0,) * len(demands), demands, life)
    check_number(days, 0, MOST_RULE_DAYS)
    stock = sold = 0
    # What was baked on the days of which there may be loaves, today first.
    recent = [0] * life
    for day in range(days):
        demand = demands[day % len(demands)]
        baked = rule.count_baked(day, stock, sold)
        recent = [baked] + recent[:-1]
        sold = min(stock + baked, demand)
        left = stock + baked - sold
        # The loaves that are left are the newest ones, so all that exceeds what was baked lately is too old.
        stock = min(left, sum(recent[:-1]))
        yield baked, sold, demand - sold, left - stock


def outcome(rule, demands, life, days):
    """Returns the tuple of the sums of what `run` yields."""
    sums = [0] * 4
    for row in run(rule, demands, life, days):
        sums = [total + number for total, number in zip(sums, row)]
    return tuple(sums)
