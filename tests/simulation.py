"""A plain simulation of bakeries for comparisons: it plays every loaf, day by day."""

import random
from collections import Counter, deque


class Simulation:
    """Plays a bakery until a round begins with the very shelf of an earlier one, and knows all days by that."""

    def __init__(self, bakes, demands, life):
        self.bakes = bakes
        self.demands = demands
        self.life = life
        self.shelves = []
        self.sales = []
        self._loaves = deque()
        self._seen = {}
        while not self._repeats():
            for _ in bakes:
                self._play_day(len(self.sales))

    def _repeats(self):
        today = len(self.sales)
        ages = tuple(today - baked for baked in self._loaves)
        self.repeat_from = self._seen.setdefault(ages, today)
        self.period = today - self.repeat_from
        return self.period > 0

    def _play_day(self, day):
        self.shelves.append(sorted(Counter(self._loaves).items()))
        for _ in range(self.bakes[day % len(self.bakes)]):
            self._loaves.append(day)
        sold = missed = thrown = 0
        for _ in range(self.demands[day % len(self.demands)]):
            if self._loaves:
                self._loaves.popleft()
                sold += 1
            else:
                missed += 1
        while self._loaves and self._loaves[0] + self.life - 1 <= day:
            self._loaves.popleft()
            thrown += 1
        self.sales.append((sold, missed, thrown))

    def _like(self, day):
        """Returns the played day that is like any day."""
        if day < len(self.sales):
            return day
        return self.repeat_from + (day - self.repeat_from) % self.period

    def sales_on(self, day):
        return self.sales[self._like(day)]

    def shelf(self, day):
        like = self._like(day)
        return [(day - like + baked, count) for baked, count in self.shelves[like]]

    def stock(self, day):
        return sum(count for _, count in self.shelves[self._like(day)])

    def totals(self, days):
        return tuple(sum(self.sales_on(day)[kind] for day in range(days)) for kind in range(3))

    def settled_day(self):
        length = len(self.bakes)
        found = 0
        for day in range(len(self.sales)):
            if self.stock(day) != self.stock(day + length):
                found = day + 1
        if found > self.repeat_from:
            raise AssertionError("the stock never settles")
        return found

    def long_run(self):
        first = self.settled_day()
        days = range(first, first + len(self.bakes))
        return tuple(sum(self.sales_on(day)[kind] for day in days) for kind in range(3))

    def next_day(self, kind, day):
        """Returns the first day from this one on with a loss of a kind: 1 for missed, 2 for thrown, or None."""
        for later in range(day, max(day, len(self.sales)) + self.period):
            if self.sales_on(later)[kind] > 0:
                return later
        return None


def play_shelf(shelf, day, baked, demand, life):
    """Plays one day from a shelf by counts; returns what is sold, missed, thrown, and the next day's shelf."""
    rest = shelf + [(day, baked)] if baked else list(shelf)
    sold = 0
    while rest and sold < demand:
        made, count = rest.pop(0)
        taken = min(count, demand - sold)
        sold += taken
        if taken < count:
            rest.insert(0, (made, count - taken))
    thrown = sum(count for made, count in rest if made + life - 1 <= day)
    return sold, demand - sold, thrown, [row for row in rest if row[0] + life - 1 > day]


def play_days(choose, demands, life, days, newest=False):
    """Plays every loaf of the first so many days; returns a tuple (baked, sold, missed, thrown) for each.

    `choose` tells how many loaves are baked by the day, the stock at its beginning and what the day before sold.
    """
    loaves = deque()
    rows = []
    sold = 0
    for day in range(days):
        baked = choose(day, len(loaves), sold)
        loaves.extend([day] * baked)
        sold = missed = thrown = 0
        for _ in range(demands[day % len(demands)]):
            if not loaves:
                missed += 1
                continue
            sold += 1
            if newest:
                loaves.pop()
            else:
                loaves.popleft()
        while loaves and loaves[0] + life - 1 <= day:
            loaves.popleft()
            thrown += 1
        rows.append((baked, sold, missed, thrown))
    return rows


def sum_rows(rows, width):
    """Returns the tuple of the sums of so many numbers in each row."""
    return tuple(sum(row[at] for row in rows) for at in range(width))


def random_parts(seed, count, most_days, most_loaves, most_life):
    """Returns the bakes, demands and life of so many bakeries; many of them have nearly balanced rounds."""
    source = random.Random(seed)
    found = []
    for _ in range(count):
        length = source.randint(1, most_days)
        most = source.randint(1, most_loaves)
        bakes = [source.randint(0, most) for _ in range(length)]
        demands = [source.randint(0, most) for _ in range(length)]
        if source.random() < 0.6:
            demands = source.sample(bakes, length)
            at = source.randrange(length)
            demands[at] = max(0, demands[at] - source.randint(-1, 1))
        if source.random() < 0.3:
            bakes[source.randrange(length)] = 0
        found.append((tuple(bakes), tuple(demands), source.randint(1, most_life)))
    return found


# Each of these gains one loaf per round while there is a lot of room: they settle late.
LATE_PARTS = [
    ((10,), (9,), 30),
    ((40,), (39,), 12),
    ((7, 5), (5, 6), 30),
    ((0, 9, 3), (4, 0, 7), 30),
    ((6, 0, 0, 7, 5, 0, 8), (0, 8, 5, 0, 6, 6, 0), 30),
    ((3,) * 24, (3,) * 23 + (2,), 30),
    ((5, 0) * 12, (0, 5) * 11 + (0, 4), 29),
]
