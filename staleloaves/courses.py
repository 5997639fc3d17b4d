"""What happens in a bakery on any day, computed without playing the days before it.

The oldest loaves are sold first, so what is left is always the newest loaves that were baked. Their number
alone tells which ones they are, and so it alone decides how things go on: a day ends with as many loaves as
are left over, but not with more than the last (life - 1) days have baked, because the others are too old.

So each day, and hence each round, adds a fixed number to the stock and then moves the result into a range.
A greater stock never leads to a smaller one. As the first round begins with nothing, the stock on a day is
never less than it was a whole round before.
"""


def sum_repeated(amounts, days):
    """Returns the sum of the first so many amounts, which repeat without an end."""
    rounds, rest = divmod(days, len(amounts))
    return rounds * sum(amounts) + sum(amounts[:rest])


def count_keepable(bakes, life):
    """Returns for each day of the round how many loaves are, at its end, new enough for the next day."""
    length = len(bakes)
    return [sum([bakes[(at - age) % length] for age in range(life - 1)]) for at in range(length)]


class Course:
    """The course of a bakery. Days have no upper limit here, and nothing is checked."""

    def __init__(self, bakes, demands, life):
        self._bakes = bakes
        self._demands = demands
        self._keepable = count_keepable(bakes, life)
        self._gain = max(0, sum(bakes) - sum(demands))
        self._first_end = self._play_round(0)[-1]
        # From so many loaves, the first day ends with all that can be kept: the most that is possible.
        self._full_end = self._play_round(self._keepable[0] + demands[0])[-1]
        self._first_misses = self._misses_in(0)
        self._later_misses = self._misses_in(1)

    def stock_at(self, day):
        """Returns how many loaves there are at the beginning of a day."""
        rounds, at = divmod(day, len(self._bakes))
        return self._stocks_in(rounds)[at]

    def sales_on(self, day):
        """Returns a tuple (sold, missed, thrown) of what happens on a day."""
        rounds, at = divmod(day, len(self._bakes))
        stocks = self._stocks_in(rounds)
        loaves = stocks[at] + self._bakes[at]
        sold = min(loaves, self._demands[at])
        return sold, self._demands[at] - sold, loaves - sold - stocks[at + 1]

    def sales_before(self, days):
        """Returns a tuple (sold, missed, thrown) of what happens on the first so many days."""
        # From the second round on, each round misses the same customers on the same days: a day that misses
        # some there ends without loaves, so it ended without loaves a round before, and all that follows
        # repeats; and if no day misses any there, none does later, as the stock does not become less.
        later = max(0, days - len(self._bakes))
        missed = sum(self._first_misses[:days]) + sum_repeated(self._later_misses, later)
        sold = sum_repeated(self._demands, days) - missed
        return sold, missed, sum_repeated(self._bakes, days) - sold - self.stock_at(days)

    def loaves_at(self, day):
        """Returns tuples (day of baking, count) of the loaves at the beginning of a day, in ascending order."""
        left = self.stock_at(day)
        baked = day
        found = []
        while left > 0:
            baked -= 1
            count = min(left, self._bakes[baked % len(self._bakes)])
            if count > 0:
                found.append((baked, count))
            left -= count
        return found[::-1]

    def find_settled(self):
        """Returns the first day from which on the stock is always the same as a round later."""
        # The round after the growing ones is the first that ends as the next one does. Two rounds that
        # have the same stock on a day have it on all days after it, too.
        rounds = self._count_growing()
        stocks = self._stocks_in(rounds)
        later = self._stocks_in(rounds + 1)
        at = 0
        while stocks[at] != later[at]:
            at += 1
        return rounds * len(self._bakes) + at

    def sum_settled_round(self):
        """Returns a tuple (sold, missed, thrown) of what happens in each round in the long run."""
        missed = sum(self._later_misses)
        sold = sum(self._demands) - missed
        # The stock does not change any more, so what is baked is sold or thrown away.
        return sold, missed, sum(self._bakes) - sold

    def _play_round(self, stock):
        """Returns the stocks at the beginning of each day of a round, and at its end."""
        stocks = [stock]
        for bake, demand, most in zip(self._bakes, self._demands, self._keepable):
            left = max(0, stocks[-1] + bake - demand)
            stocks.append(min(left, most))
        return stocks

    def _stocks_in(self, rounds):
        """Returns the stocks at the beginning of each day of the round after so many, and at its end."""
        if rounds == 0:
            return self._play_round(0)
        # After the first round, each round adds the gain, until what can be kept ends that. Without
        # a gain, the second round already ends as it began.
        start = min(self._full_end, self._first_end + (rounds - 1) * self._gain)
        return self._play_round(start)

    def _misses_in(self, rounds):
        """Returns how many customers are missed on each day of the round after so many."""
        stocks = self._stocks_in(rounds)
        return [max(0, demand - stocks[at] - self._bakes[at]) for at, demand in enumerate(self._demands)]

    def _count_growing(self):
        """Returns how many of the first rounds end with a smaller stock than the round after them."""
        if self._gain == 0:
            return 0
        # This rounds up: the last step may be smaller than the gain.
        return -((self._first_end - self._full_end) // self._gain)
