"""Points 3, 4 and 5 for bakeries of which the answers are known beforehand."""

import unittest

from staleloaves.bakeries import Bakery
from staleloaves.losses import next_missed, next_thrown
from tests.simulation import random_parts

MOST = 10 ** 9
LAST = 10 ** 18


class LifeOneTest(unittest.TestCase):
    def test_each_day_stands_alone(self):
        for bakes, demands, _ in random_parts(31, 150, 24, MOST, 30):
            bakery = Bakery(bakes, demands, 1)
            sales = [(min(bake, demand), max(0, demand - bake), max(0, bake - demand))
                     for bake, demand in zip(bakes, demands)]
            sums = tuple(sum(row[kind] for row in sales) for kind in range(3))
            self.assertEqual((bakery.settled_day, bakery.long_run), (0, sums))
            for day in list(range(2 * len(bakes))) + [10 ** 12 + 7, LAST]:
                found = (bakery.sold(day), bakery.missed(day), bakery.thrown(day))
                self.assertEqual(found, sales[day % len(bakes)])
                self.assertEqual((bakery.stock(day), bakery.shelf(day)), (0, []))
            rounds, rest = divmod(LAST, len(bakes))
            totals = tuple(rounds * sums[kind] + sum(row[kind] for row in sales[:rest]) for kind in range(3))
            self.assertEqual(bakery.totals(LAST), totals)


class SameEachDayTest(unittest.TestCase):
    def test_too_few_loaves(self):
        for length in (1, 5, 24):
            for life in (1, 2, 30):
                bakery = Bakery((3,) * length, (MOST,) * length, life)
                self.assertEqual(bakery.settled_day, 0)
                self.assertEqual(bakery.long_run, (3 * length, (MOST - 3) * length, 0))
                self.assertEqual(bakery.totals(LAST), (3 * LAST, (MOST - 3) * LAST, 0))
                self.assertEqual([next_missed(bakery, LAST), next_thrown(bakery, 0)], [LAST, None])

    def test_just_enough_loaves(self):
        bakery = Bakery((MOST,) * 24, (MOST,) * 24, 30)
        self.assertEqual((bakery.settled_day, bakery.long_run), (0, (24 * MOST, 0, 0)))
        self.assertEqual(bakery.totals(LAST), (LAST * MOST, 0, 0))
        self.assertEqual([next_missed(bakery, 0), next_thrown(bakery, 0)], [None, None])

    def test_too_many_loaves(self):
        for bake, demand, life in ((5, 3, 4), (10, 1, 3), (MOST, 0, 30), (7, 6, 1), (100, 99, 17)):
            bakery = Bakery((bake,), (demand,), life)
            full = bake * (life - 1)
            days = -(-full // (bake - demand))
            self.assertEqual((bakery.settled_day, bakery.long_run), (days, (demand, 0, bake - demand)))
            for day in list(range(60)) + [LAST]:
                self.assertEqual(bakery.stock(day), min(full, day * (bake - demand)))
            thrown = LAST * (bake - demand) - full
            self.assertEqual(bakery.totals(LAST), (LAST * demand, 0, thrown))

    def test_nothing_at_all(self):
        bakery = Bakery((0,) * 24, (0,) * 24, 30)
        self.assertEqual((bakery.settled_day, bakery.long_run, bakery.totals(LAST)), (0, (0, 0, 0), (0, 0, 0)))


class OneDayOfBakingTest(unittest.TestCase):
    def test_loaves_last_for_their_life(self):
        # 60 loaves in a round of 24 days, two of which are bought each day.
        for life in range(1, 25):
            bakery = Bakery((60,) + (0,) * 23, (2,) * 24, life)
            self.assertEqual(bakery.long_run, (2 * life, 2 * (24 - life), 60 - 2 * life))
            for day in range(24):
                for later in (day, day + 24, day + 24 * 10 ** 16):
                    left = 60 - 2 * day if 0 < day < life else 0
                    self.assertEqual(bakery.stock(later), left)
                    self.assertEqual(bakery.shelf(later), [(later - day, left)] if left else [])
                    self.assertEqual(bakery.missed(later), 0 if day < life else 2)
                    self.assertEqual(bakery.thrown(later), 60 - 2 * life if day == life - 1 else 0)
            self.assertEqual(next_missed(bakery, 0), life if life < 24 else None)
            self.assertEqual([next_thrown(bakery, 0), next_thrown(bakery, life)], [life - 1, life + 23])

    def test_loaves_of_two_rounds(self):
        # With the life 30, the 12 loaves left after 24 days are the first ones sold in the next round.
        bakery = Bakery((60,) + (0,) * 23, (2,) * 24, 30)
        self.assertEqual(bakery.shelf(24), [(0, 12)])
        self.assertEqual(bakery.shelf(27), [(0, 6), (24, 60)])
        self.assertEqual(bakery.shelf(30), [(24, 60)])
        self.assertEqual(bakery.shelf(48), [(24, 24)])
        self.assertEqual([bakery.thrown(53), bakery.stock(53), bakery.shelf(54)], [12, 74, [(48, 60)]])
        self.assertEqual(bakery.long_run, (48, 0, 12))
        self.assertEqual(next_thrown(bakery, 0), 53)

    def test_baking_late_in_the_round(self):
        bakery = Bakery((0, 0, 9), (2, 2, 2), 3)
        self.assertEqual([bakery.missed(day) for day in range(6)], [2, 2, 0, 0, 0, 0])
        self.assertEqual([bakery.thrown(day) for day in range(6)], [0, 0, 0, 0, 3, 0])
        self.assertEqual([bakery.totals(3), bakery.totals(LAST)[1]], [(2, 4, 0), 4])


class MultipliedTest(unittest.TestCase):
    def test_all_counts_are_multiplied(self):
        for bakes, demands, life in random_parts(32, 200, 12, 9, 30):
            small = Bakery(bakes, demands, life)
            for times in (2, 1000, MOST // 10):
                large = Bakery(tuple(times * n for n in bakes), tuple(times * n for n in demands), life)
                self.assertEqual(large.settled_day, small.settled_day)
                self.assertEqual(large.long_run, tuple(times * n for n in small.long_run))
                for day in (1, 2, 5, 13, 40, 1234, LAST):
                    self.assertEqual(large.stock(day), times * small.stock(day))
                    self.assertEqual(large.sold(day), times * small.sold(day))
                    self.assertEqual(large.missed(day), times * small.missed(day))
                    self.assertEqual(large.thrown(day), times * small.thrown(day))
                    self.assertEqual(large.totals(day), tuple(times * n for n in small.totals(day)))
                    self.assertEqual(large.shelf(day), [(made, times * n) for made, n in small.shelf(day)])
                    self.assertEqual(next_missed(large, day), next_missed(small, day))
                    self.assertEqual(next_thrown(large, day), next_thrown(small, day))


if __name__ == "__main__":
    unittest.main()
