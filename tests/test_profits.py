"""Point 13: profits, the first day of a profit, and the best change of baking."""

import random
import unittest

from staleloaves.bakeries import Bakery
from staleloaves.errors import InvalidNumber
from staleloaves.prices import Prices, best_more, first_profit, profit, round_profit
from tests.simulation import LATE_PARTS, Simulation, random_parts

MOST = 10 ** 9
LAST = 10 ** 18
CENTS = 10 ** 6


def random_cents(source):
    most = source.choice((3, 12, CENTS))
    return tuple(source.choice((0, 1, most, source.randint(0, most))) for _ in range(3))


def count_profit(cents, rows):
    """Returns the profit of days, given as tuples (baked, sold, missed, thrown)."""
    sale, cost, waste = cents
    return sum(sale * sold - cost * baked - waste * thrown for baked, sold, _, thrown in rows)


def simulated_rows(simulation, days):
    length = len(simulation.bakes)
    return [(simulation.bakes[day % length],) + simulation.sales_on(day) for day in days]


def simulated_profit(simulation, cents, days):
    """Returns the profit in the first so many days, however many these are."""
    first = min(days, simulation.repeat_from)
    periods, rest = divmod(days - first, simulation.period)
    period = simulated_rows(simulation, range(first, first + simulation.period))
    return (count_profit(cents, simulated_rows(simulation, range(first)))
            + periods * count_profit(cents, period) + count_profit(cents, period[:rest]))


def simulated_round(simulation, cents):
    first = simulation.settled_day()
    return count_profit(cents, simulated_rows(simulation, range(first, first + len(simulation.bakes))))


class ProfitTest(unittest.TestCase):
    def test_example(self):
        bakery = Bakery((5, 0), (2, 2), 2)
        prices = Prices(10, 3, 1)
        self.assertEqual(profit(bakery, prices, LAST), 12 * LAST)
        self.assertEqual(round_profit(bakery, prices), 24)
        self.assertEqual(best_more(bakery, prices), (0, 24))
        self.assertEqual(first_profit(bakery, prices, 20), 2)

    def test_names_of_arguments(self):
        bakery = Bakery((5, 0), (2, 2), 2)
        prices = Prices(10, 3, 1)
        self.assertEqual(profit(bakery=bakery, prices=prices, days=1), 5)
        self.assertEqual(round_profit(bakery=bakery, prices=prices), 24)
        self.assertEqual(best_more(bakery=bakery, prices=prices), (0, 24))
        self.assertEqual(first_profit(bakery=bakery, prices=prices, goal=20), 2)

    def test_each_price_counts(self):
        # Day 0 bakes 5 and sells 2, day 1 sells 2 and throws 1 away.
        bakery = Bakery((5, 0), (2, 2), 2)
        self.assertEqual([profit(bakery, Prices(1, 0, 0), days) for days in range(5)], [0, 2, 4, 6, 8])
        self.assertEqual([profit(bakery, Prices(0, 1, 0), days) for days in range(5)], [0, -5, -5, -10, -10])
        self.assertEqual([profit(bakery, Prices(0, 0, 1), days) for days in range(5)], [0, 0, -1, -1, -2])
        self.assertEqual([round_profit(bakery, Prices(*cents)) for cents in ((1, 0, 0), (0, 1, 0), (0, 0, 1))],
                         [4, -5, -1])

    def test_days_out_of_range(self):
        for bakery in (Bakery((5, 0), (2, 2), 2), Bakery((0,), (0,), 1)):
            for days in (-1, -LAST, LAST + 1, 10 ** 30):
                with self.subTest(days=days), self.assertRaises(InvalidNumber):
                    profit(bakery, Prices(10, 3, 1), days)

    def test_no_days(self):
        for bakes, demands, life in random_parts(131, 50, 24, MOST, 30):
            self.assertEqual(profit(Bakery(bakes, demands, life), Prices(CENTS, CENTS, CENTS), 0), 0)

    def test_simulation(self):
        source = random.Random(132)
        for bakes, demands, life in random_parts(133, 150, 6, 8, 12) + LATE_PARTS:
            cents = random_cents(source)
            bakery = Bakery(bakes, demands, life)
            simulation = Simulation(bakes, demands, life)
            total = 0
            for day in range(2 * len(bakes) + life + 10):
                self.assertEqual(profit(bakery, Prices(*cents), day), total)
                total += count_profit(cents, simulated_rows(simulation, [day]))
            for days in (200, 999, 10 ** 9, LAST - 1, LAST):
                self.assertEqual(profit(bakery, Prices(*cents), days), simulated_profit(simulation, cents, days))
            self.assertEqual(round_profit(bakery, Prices(*cents)), simulated_round(simulation, cents))

    def test_far_ones_grow_per_round(self):
        source = random.Random(134)
        for bakes, demands, life in random_parts(135, 150, 24, MOST, 30):
            bakery = Bakery(bakes, demands, life)
            prices = Prices(*random_cents(source))
            grown = round_profit(bakery, prices)
            length = len(bakes)
            for days in (bakery.settled_day, bakery.settled_day + 7, LAST - 1000 * length):
                if days > LAST - 1000 * length:
                    continue
                before = profit(bakery, prices, days)
                self.assertEqual(profit(bakery, prices, days + length), before + grown)
                self.assertEqual(profit(bakery, prices, days + 1000 * length), before + 1000 * grown)

    def test_great_amounts(self):
        bakery = Bakery((MOST,), (MOST,), 1)
        self.assertEqual(profit(bakery, Prices(CENTS, 0, CENTS), LAST), 10 ** 33)
        self.assertEqual(profit(bakery, Prices(0, CENTS, CENTS), LAST), -10 ** 33)
        bakery = Bakery((MOST,) * 24, (0,) * 24, 1)
        self.assertEqual(profit(bakery, Prices(CENTS, CENTS, CENTS), LAST), -2 * 10 ** 33)
        self.assertEqual(round_profit(bakery, Prices(CENTS, CENTS, CENTS)), -48 * 10 ** 15)

    def test_calls_again(self):
        bakery = Bakery((5, 0), (2, 2), 2)
        prices = Prices(10, 3, 1)
        for _ in range(2):
            self.assertEqual([profit(bakery, prices, 3), round_profit(bakery, prices)], [29, 24])
            self.assertEqual([best_more(bakery, prices), first_profit(bakery, prices, 29)], [(0, 24), 3])
            self.assertEqual((bakery.bakes, prices.cents), ((5, 0), (10, 3, 1)))


class FirstProfitTest(unittest.TestCase):
    def test_goals_out_of_range(self):
        for goal in (-1, -LAST, LAST + 1, 10 ** 30):
            with self.subTest(goal=goal), self.assertRaises(InvalidNumber):
                first_profit(Bakery((5, 0), (2, 2), 2), Prices(10, 3, 1), goal)

    def test_goal_of_nothing(self):
        for cents in ((0, 0, 0), (0, CENTS, CENTS), (CENTS, 0, 0)):
            self.assertEqual(first_profit(Bakery((5, 0), (2, 2), 2), Prices(*cents), 0), 0)

    def test_a_thousand_days(self):
        bakery = Bakery((1,), (1,), 1)
        for cents in (1, 2, 7, CENTS):
            prices = Prices(cents, 0, 0)
            self.assertEqual(first_profit(bakery, prices, 1), 1)
            self.assertEqual(first_profit(bakery, prices, 999 * cents), 999)
            self.assertEqual(first_profit(bakery, prices, 999 * cents + 1), 1000)
            self.assertEqual(first_profit(bakery, prices, 1000 * cents), 1000)
            self.assertIsNone(first_profit(bakery, prices, 1000 * cents + 1))

    def test_greatest_goal(self):
        self.assertEqual(first_profit(Bakery((MOST,), (MOST,), 1), Prices(CENTS, 0, 0), LAST), 1000)
        self.assertIsNone(first_profit(Bakery((MOST,), (MOST,), 1), Prices(CENTS - 1, 0, 0), LAST))
        self.assertIsNone(first_profit(Bakery((MOST,), (MOST,), 1), Prices(CENTS, 1, 0), LAST))
        self.assertIsNone(first_profit(Bakery((MOST,), (MOST - 1,), 1), Prices(CENTS, 0, 0), LAST))

    def test_none(self):
        bakery = Bakery((5, 0), (2, 2), 2)
        self.assertIsNone(first_profit(bakery, Prices(0, 0, 0), 1))
        self.assertIsNone(first_profit(bakery, Prices(3, 3, 3), 1))

    def test_a_profit_that_is_lost_again(self):
        # A good first day of each round, and a bad second one.
        bakery = Bakery((5, 9), (5, 0), 1)
        prices = Prices(10, 3, 1)
        self.assertEqual([profit(bakery, prices, days) for days in range(6)], [0, 35, -1, 34, -2, 33])
        self.assertEqual([first_profit(bakery, prices, goal) for goal in (0, 1, 35)], [0, 1, 1])
        self.assertIsNone(first_profit(bakery, prices, 36))

    def test_a_profit_that_comes_late(self):
        # The loaves of the first day are sold on the second one.
        bakery = Bakery((9, 0), (0, 9), 2)
        prices = Prices(10, 3, 1)
        self.assertEqual([profit(bakery, prices, days) for days in range(5)], [0, -27, 63, 36, 126])
        self.assertEqual([first_profit(bakery, prices, goal) for goal in (0, 1, 63, 64, 126, 127)],
                         [0, 2, 2, 4, 4, 6])

    def test_simulation(self):
        source = random.Random(136)
        for bakes, demands, life in random_parts(137, 60, 6, 8, 12):
            cents = random_cents(source)
            bakery = Bakery(bakes, demands, life)
            simulation = Simulation(bakes, demands, life)
            sums = [0]
            for row in simulated_rows(simulation, range(1000)):
                sums.append(sums[-1] + count_profit(cents, [row]))
            top = max(sums)
            for goal in (0, 1, top // 3, top - 1, top, top + 1, source.randint(0, top)):
                if goal < 0:
                    continue
                expected = next((days for days, total in enumerate(sums) if total >= goal), None)
                self.assertEqual(first_profit(bakery, Prices(*cents), goal), expected)


class BestMoreTest(unittest.TestCase):
    def assert_best_of_all(self, bakes, demands, life, cents):
        """Compares with the simulated long runs of all changes up to more loaves each day than customers come."""
        found = None
        for more in range(-min(bakes), max(demands) + 2):
            simulation = Simulation(tuple(bake + more for bake in bakes), demands, life)
            gained = simulated_round(simulation, cents)
            if found is None or gained > found[1]:
                found = (more, gained)
        self.assertEqual(best_more(Bakery(bakes, demands, life), Prices(*cents)), found)

    def test_simulation(self):
        source = random.Random(138)
        for bakes, demands, life in random_parts(139, 120, 6, 6, 8):
            self.assert_best_of_all(bakes, demands, life, random_cents(source))
        for bakes, demands, life in random_parts(140, 20, 24, 5, 30):
            self.assert_best_of_all(bakes, demands, life, (source.randint(5, 20), source.randint(0, 9), 1))

    def test_all_changes_of_many_bakeries(self):
        source = random.Random(141)
        for bakes, demands, life in random_parts(142, 400, 24, 12, 30):
            bakery = Bakery(bakes, demands, life)
            prices = Prices(*random_cents(source))
            gains = [(round_profit(bakery.baking_more(more), prices), -more)
                     for more in range(-min(bakes), max(demands) + 3)]
            best, less = max(gains)
            self.assertEqual(best_more(bakery, prices), (-less, best))

    def test_the_smallest_of_equal_ones(self):
        bakery = Bakery((5, 3), (2, 2), 2)
        self.assertEqual(best_more(bakery, Prices(0, 0, 0)), (-3, 0))
        self.assertEqual(best_more(bakery, Prices(CENTS, CENTS, 0)), (-3, 0))
        self.assertEqual(best_more(Bakery((7,), (4,), 3), Prices(6, 6, 0)), (-7, 0))
        self.assertEqual(best_more(Bakery((7,), (4,), 3), Prices(6, 5, 0)), (-3, 4))
        self.assertEqual(best_more(Bakery((7,), (4,), 3), Prices(6, 0, 0)), (-3, 24))

    def test_nothing_to_gain(self):
        self.assertEqual(best_more(Bakery((5, 0), (2, 2), 2), Prices(0, 9, 9)), (0, -54))
        self.assertEqual(best_more(Bakery((5, 3), (2, 2), 2), Prices(1, 9, 9)), (-3, 2 - 18))
        self.assertEqual(best_more(Bakery((MOST,), (0,), 30), Prices(CENTS, 1, 0)), (-MOST, 0))

    def test_bakes_at_their_limits(self):
        prices = Prices(10, 3, 1)
        self.assertEqual(best_more(Bakery((0,), (MOST,), 1), prices), (MOST, 7 * MOST))
        self.assertEqual(best_more(Bakery((MOST,), (MOST,), 1), prices), (0, 7 * MOST))
        self.assertEqual(best_more(Bakery((MOST,), (3,), 1), prices), (3 - MOST, 21))
        self.assertEqual(best_more(Bakery((0, MOST), (MOST, MOST), 1), prices), (0, 7 * MOST))
        self.assertEqual(best_more(Bakery((0, MOST), (0, 0), 1), prices), (0, -4 * MOST))
        self.assertEqual(best_more(Bakery((1, MOST - 1), (MOST, MOST), 1), prices), (1, 7 * (MOST + 2)))
        self.assertEqual(best_more(Bakery((1, MOST - 1), (0, 0), 1), prices), (-1, -4 * (MOST - 2)))
        self.assertEqual(best_more(Bakery((0,) * 24, (MOST,) * 24, 30), Prices(CENTS, 0, 0)),
                         (MOST, 24 * MOST * CENTS))

    def test_great_amounts(self):
        source = random.Random(143)
        for bakes, demands, life in random_parts(144, 80, 8, 12, 12):
            cents = random_cents(source)
            for times in (10 ** 6, MOST // 13):
                large = Bakery(tuple(times * n for n in bakes), tuple(times * n for n in demands), life)
                more, best = best_more(large, Prices(*cents))
                self.assertEqual(best, round_profit(large.baking_more(more), Prices(*cents)))
                steps = [10 ** exponent * digit for exponent in range(10) for digit in (1, 2, 5)]
                for step in steps + [source.randint(1, MOST) for _ in range(10)]:
                    if more - step >= -min(large.bakes):
                        self.assertLess(round_profit(large.baking_more(more - step), Prices(*cents)), best)
                    if more + step <= MOST - max(large.bakes):
                        self.assertLessEqual(round_profit(large.baking_more(more + step), Prices(*cents)), best)


if __name__ == "__main__":
    unittest.main()
