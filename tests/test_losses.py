"""Point 5: the next missed customers and thrown loaves; point 8: the least life and baking."""

import random
import unittest

from staleloaves.bakeries import Bakery
from staleloaves.errors import InvalidNumber
from staleloaves.losses import least_baking, least_life, next_missed, next_thrown
from tests.simulation import LATE_PARTS, Simulation, random_parts

MOST = 10 ** 9
LAST = 10 ** 18
MISSED = 1
THROWN = 2


class NextTest(unittest.TestCase):
    def test_example(self):
        bakery = Bakery((3, 0, 4), (2, 1, 2), 2)
        found = [next_missed(bakery, 0), next_thrown(bakery, 0), next_thrown(bakery, 5)]
        self.assertEqual(found, [None, 4, 7])

    def test_numbers(self):
        bakery = Bakery((3, 0, 4), (2, 1, 2), 2)
        for call in (next_missed, next_thrown):
            for wrong in (-1, LAST + 1, 10 ** 30):
                with self.subTest(call=call, wrong=wrong), self.assertRaises(InvalidNumber):
                    call(bakery, wrong)
        self.assertEqual([next_missed(bakery, LAST), next_thrown(bakery, LAST)], [None, LAST])

    def test_later_than_the_last_day(self):
        # 10 ** 18 is a multiple of 8, so it is the first day of a round.
        bakery = Bakery((9, 9, 9, 9, 9, 9, 9, 0), (5,) * 8, 1)
        self.assertEqual(next_missed(bakery, LAST), LAST + 7)
        self.assertEqual(next_missed(bakery, LAST - 1), LAST - 1)
        bakery = Bakery((0, 0, 0, 0, 0, 5, 0, 0), (1,) * 8, 2)
        self.assertEqual(next_thrown(bakery, LAST), LAST + 6)
        self.assertEqual(next_thrown(bakery, LAST - 1), LAST + 6)
        self.assertEqual(next_thrown(bakery, LAST - 2), LAST - 2)

    def test_missed_only_at_the_beginning(self):
        bakery = Bakery((0, 5), (3, 1), 30)
        self.assertEqual([next_missed(bakery, 0), next_missed(bakery, 1), next_missed(bakery, LAST)], [0, None, None])

    def test_thrown_only_very_late(self):
        bakery = Bakery((MOST,), (MOST - 1,), 30)
        first = 29 * MOST
        days = [0, 1, first - 1, first, first + 1, LAST]
        self.assertEqual([next_thrown(bakery, day) for day in days], [first, first, first, first, first + 1, LAST])
        bakery = Bakery((MOST,) * 24, (MOST,) * 23 + (MOST - 1,), 30)
        first = 24 * 29 * MOST + 23
        days = [0, first - 24, first, first + 1]
        self.assertEqual([next_thrown(bakery, day) for day in days], [first, first, first, first + 24])

    def test_thrown_before_the_settled_day(self):
        # The last step to the settled stock of 10 would have been 2 loaves longer.
        bakery = Bakery((10,), (6,), 2)
        self.assertEqual((bakery.settled_day, bakery.thrown(2)), (3, 2))
        self.assertEqual([next_thrown(bakery, day) for day in range(5)], [2, 2, 2, 3, 4])

    def test_plain_simulation(self):
        for parts in random_parts(21, 700, 6, 7, 9) + random_parts(22, 40, 24, 12, 30) + LATE_PARTS:
            bakery = Bakery(*parts)
            plain = Simulation(*parts)
            last = len(plain.sales) + len(parts[0])
            for day in list(range(min(last, 40))) + [last // 2, last, LAST]:
                with self.subTest(parts=parts, day=day):
                    self.assertEqual(next_missed(bakery, day), plain.next_day(MISSED, day))
                    self.assertEqual(next_thrown(bakery, day), plain.next_day(THROWN, day))


class LeastLifeTest(unittest.TestCase):
    def test_example(self):
        self.assertEqual(least_life(Bakery((4, 0), (2, 2), 1), 0), 2)

    def test_numbers(self):
        bakery = Bakery((4, 0), (2, 2), 1)
        for wrong in (-1, 10 ** 12 + 1, -10 ** 20, 10 ** 20):
            with self.subTest(wrong=wrong), self.assertRaises(InvalidNumber):
                least_life(bakery, wrong)
        self.assertEqual([least_life(bakery, missed) for missed in (0, 1, 2, 10 ** 12)], [2, 2, 1, 1])

    def test_edges(self):
        round_of_all = Bakery((24,) + (0,) * 23, (1,) * 24, 30)
        self.assertEqual([least_life(round_of_all, missed) for missed in (0, 1, 22, 23)], [24, 23, 2, 1])
        self.assertIsNone(least_life(Bakery((1,), (2,), 5), 0))
        self.assertEqual(least_life(Bakery((1,), (2,), 5), 1), 1)
        self.assertIsNone(least_life(Bakery((0,), (1,), 30), 0))

    def test_loaves_must_last_for_the_whole_round(self):
        bakery = Bakery((30,) + (0,) * 23, (0,) * 23 + (30,), 1)
        self.assertEqual([least_life(bakery, missed) for missed in (0, 29, 30)], [24, 24, 1])
        bakery = Bakery((0, 30), (30, 0), 30)
        self.assertEqual([least_life(bakery, missed) for missed in (0, 29, 30)], [2, 2, 1])

    def test_no_life_but_many_customers(self):
        bakery = Bakery((0,) * 24, (MOST,) * 24, 3)
        self.assertIsNone(least_life(bakery, 24 * MOST - 1))
        self.assertEqual(least_life(bakery, 24 * MOST), 1)

    def test_plain_search(self):
        source = random.Random(23)
        for bakes, demands, life in random_parts(24, 120, 5, 6, 9):
            missed = source.randint(0, 8)
            fitting = [one for one in range(1, 31) if Simulation(bakes, demands, one).long_run()[1] <= missed]
            with self.subTest(bakes=bakes, demands=demands, missed=missed):
                expected = fitting[0] if fitting else None
                self.assertEqual(least_life(Bakery(bakes, demands, life), missed), expected)


class LeastBakingTest(unittest.TestCase):
    def test_example(self):
        self.assertEqual(least_baking(Bakery((1,), (3,), 1), 1), 1)

    def test_numbers(self):
        bakery = Bakery((1,), (3,), 1)
        for wrong in (-1, 10 ** 12 + 1, -10 ** 20, 10 ** 20):
            with self.subTest(wrong=wrong), self.assertRaises(InvalidNumber):
                least_baking(bakery, wrong)
        self.assertEqual([least_baking(bakery, missed) for missed in (0, 1, 2, 10 ** 12)], [2, 1, 0, 0])

    def test_no_bake_exceeds_its_limit(self):
        bakery = Bakery((0, MOST - 3), (4, 4), 1)
        self.assertEqual([least_baking(bakery, missed) for missed in (0, 1, 2, 4)], [None, 3, 2, 0])
        bakery = Bakery((0, MOST), (4, 4), 1)
        self.assertEqual([least_baking(bakery, missed) for missed in (3, 4)], [None, 0])
        self.assertEqual(least_baking(Bakery((0,), (MOST,), 30), 0), MOST)
        self.assertEqual(least_baking(Bakery((0,) * 24, (MOST,) * 24, 30), 24), MOST - 1)

    def test_smallest_one_of_large_bakeries(self):
        for parts in random_parts(25, 100, 24, MOST, 30):
            bakery = Bakery(*parts)
            missed = bakery.long_run[1] // 3
            count = least_baking(bakery, missed)
            if count is None:
                self.assertGreater(bakery.baking_more(MOST - max(parts[0])).long_run[1], missed)
                continue
            self.assertLessEqual(bakery.baking_more(count).long_run[1], missed)
            if count > 0:
                self.assertGreater(bakery.baking_more(count - 1).long_run[1], missed)

    def test_plain_search(self):
        source = random.Random(26)
        for bakes, demands, life in random_parts(27, 150, 5, 6, 6):
            missed = source.randint(0, 6)
            count = 0
            while Simulation([bake + count for bake in bakes], demands, life).long_run()[1] > missed:
                count += 1
            with self.subTest(bakes=bakes, demands=demands, life=life, missed=missed):
                self.assertEqual(least_baking(Bakery(bakes, demands, life), missed), count)

    def test_bakery_stays_as_it_was(self):
        bakery = Bakery((1, 0), (3, 2), 1)
        least_baking(bakery, 0)
        least_life(bakery, 0)
        self.assertEqual((bakery.bakes, bakery.demands, bakery.life, bakery.long_run), ((1, 0), (3, 2), 1, (1, 4, 0)))
        self.assertEqual(least_baking(bakery, 1), least_baking(bakery, 1))


if __name__ == "__main__":
    unittest.main()
