"""Points 6 and 7: evidence for how many loaves can be sold, other orders of selling, and the newest loaves first."""

import itertools
import random
import unittest

from staleloaves.bakeries import Bakery
from staleloaves.errors import InvalidDays, InvalidNumber
from staleloaves.evidence import find_days, judge_days, newest_first
from tests.simulation import LATE_PARTS, Simulation, play_days, random_parts, sum_rows

MOST = 10 ** 9
EXAMPLE = Bakery((3, 0, 4), (2, 1, 2), 2)


def plain_bound(bakes, demands, life, days, chosen):
    """Returns the bound word by word as point 6 has it."""
    bound = sum(demands[day % len(demands)] for day in chosen)
    for baked in range(days):
        sellable = [day for day in range(days) if baked <= day <= baked + life - 1]
        if any(day not in chosen for day in sellable):
            bound += bakes[baked % len(bakes)]
    return bound


def all_lists(days):
    for count in range(days + 1):
        for chosen in itertools.combinations(range(days), count):
            yield list(chosen)


class JudgeDaysTest(unittest.TestCase):
    def test_example(self):
        self.assertEqual([judge_days(EXAMPLE, 3, []), judge_days(EXAMPLE, 3, [2])], [7, 5])

    def test_known_bounds(self):
        bakery = Bakery((10, 20, 40), (1, 2, 4), 2)
        self.assertEqual(judge_days(bakery, 3, []), 70)
        self.assertEqual(judge_days(bakery, 3, [0]), 71)
        self.assertEqual(judge_days(bakery, 3, [0, 1]), 63)
        self.assertEqual(judge_days(bakery, 3, [1, 2]), 16)
        self.assertEqual(judge_days(bakery, 3, [2]), 34)
        self.assertEqual(judge_days(bakery, 3, [0, 1, 2]), 7)
        self.assertEqual(judge_days(bakery, 4, [0, 1, 2, 3]), 8)

    def test_one_day(self):
        for life in (1, 2, 30):
            bakery = Bakery((MOST, 5), (7, 6), life)
            self.assertEqual([judge_days(bakery, 1, []), judge_days(bakery, 1, [0])], [MOST, 7])

    def test_two_hundred_days(self):
        bakery = Bakery((MOST,), (MOST - 1,), 30)
        self.assertEqual(judge_days(bakery, 200, []), 200 * MOST)
        self.assertEqual(judge_days(bakery, 200, list(range(200))), 200 * (MOST - 1))
        # Only the loaves of the 31 days from 70 to 100 cannot be sold on a day that is not listed.
        chosen = list(range(70, 130))
        self.assertEqual(judge_days(bakery, 200, chosen), 60 * (MOST - 1) + (200 - 31) * MOST)

    def test_word_by_word(self):
        source = random.Random(41)
        for parts in random_parts(42, 150, 5, 9, 6) + random_parts(43, 40, 24, MOST, 30) + LATE_PARTS:
            for days in (1, 2, 7, 33, 61, 200):
                for share in (0.5, 0.9, 0.98):
                    chosen = [day for day in range(days) if source.random() < share]
                    with self.subTest(parts=parts, days=days, chosen=chosen):
                        expected = plain_bound(*parts, days, chosen)
                        self.assertEqual(judge_days(Bakery(*parts), days, chosen), expected)

    def test_no_list_shows_less_than_is_sold(self):
        for parts in random_parts(44, 120, 6, 6, 5) + random_parts(45, 20, 3, 6, 30):
            bakery = Bakery(*parts)
            for days in (1, 2, 4, 7):
                with self.subTest(parts=parts, days=days):
                    bounds = [judge_days(bakery, days, chosen) for chosen in all_lists(days)]
                    self.assertEqual(min(bounds), Simulation(*parts).totals(days)[0])


class FaultsTest(unittest.TestCase):
    def assert_fault(self, index, days, chosen):
        with self.subTest(days=days, chosen=chosen), self.assertRaises(InvalidDays) as caught:
            judge_days(EXAMPLE, days, chosen)
        self.assertEqual(caught.exception.index, index)

    def test_example(self):
        self.assert_fault(1, 3, [2, 1])

    def test_each_index(self):
        for days in (3, 10, 200):
            good = list(range(days))
            for at in range(days):
                self.assert_fault(at, days, good[:at] + [days])
                self.assert_fault(at, days, good[:at] + [-1])
                self.assert_fault(at, days, good[:at] + [10 ** 30] + good[at + 1:])
                if at > 0:
                    self.assert_fault(at, days, good[:at] + [at - 1] + good[at:])
                    self.assert_fault(at, days, good[:at] + [0])
            self.assert_fault(days, days, good + [days])
            self.assert_fault(days, days, good + [days - 1])

    def test_first_of_several(self):
        self.assert_fault(0, 5, [-1, -2, 9])
        self.assert_fault(0, 5, [5, 5, 0])
        self.assert_fault(1, 5, [0, 0, 7, -1])
        self.assert_fault(2, 5, [0, 4, 5, 5])
        self.assert_fault(3, 5, [1, 2, 4, 3, -1])

    def test_one_day(self):
        self.assert_fault(0, 1, [1])
        self.assert_fault(0, 1, [-1])
        self.assert_fault(1, 1, [0, 0])
        self.assert_fault(1, 1, [0, 1])

    def test_invalid_number_comes_first(self):
        for days in (0, -1, 201, 10 ** 30):
            for chosen in ([], [0], [-1], [2, 1], [300]):
                with self.subTest(days=days, chosen=chosen), self.assertRaises(InvalidNumber):
                    judge_days(EXAMPLE, days, chosen)

    def test_numbers_of_days(self):
        for wrong in (0, -1, 201, -10 ** 30, 10 ** 30):
            with self.subTest(wrong=wrong), self.assertRaises(InvalidNumber):
                find_days(EXAMPLE, wrong)
        for wrong in (-1, 1001, -10 ** 30, 10 ** 30):
            with self.subTest(wrong=wrong), self.assertRaises(InvalidNumber):
                newest_first(EXAMPLE, wrong)
        for days in (1, 200):
            judge_days(EXAMPLE, days, [0])
            find_days(EXAMPLE, days)
        for days in (0, 1000):
            newest_first(EXAMPLE, days)


class FindDaysTest(unittest.TestCase):
    def check(self, parts, days, sold):
        bakery = Bakery(*parts)
        found = find_days(bakery, days)
        self.assertIs(type(found), list)
        self.assertEqual(found, sorted(set(found)))
        self.assertEqual(judge_days(bakery, days, found), sold)
        self.assertEqual(plain_bound(*parts, days, found), sold)

    def test_example(self):
        self.assertEqual(find_days(EXAMPLE, 3), [2])

    def test_plain_simulation(self):
        many = random_parts(46, 500, 6, 8, 9) + random_parts(47, 100, 2, 8, 30) + random_parts(48, 40, 24, 12, 30)
        for parts in many + LATE_PARTS:
            plain = Simulation(*parts)
            for days in (1, 2, 3, 6, 13, 40, 200):
                with self.subTest(parts=parts, days=days):
                    self.check(parts, days, plain.totals(days)[0])

    def test_large_bakeries(self):
        for parts in random_parts(49, 120, 24, MOST, 30) + random_parts(50, 60, 3, MOST, 30):
            for days in (1, 24, 50, 199, 200):
                with self.subTest(parts=parts, days=days):
                    self.check(parts, days, Bakery(*parts).totals(days)[0])

    def test_limits(self):
        for parts in (((0,), (0,), 1), ((MOST,), (0,), 30), ((0,), (MOST,), 30), ((MOST,) * 24, (MOST,) * 24, 1)):
            for days in (1, 200):
                self.check(parts, days, days * min(parts[0][0], parts[1][0]))

    def test_days_before_those_of_the_unsold_loaves(self):
        # The loaves of day 1 are too old after day 3. On the days 1 and 2, those of day 0 are sold instead.
        parts = ((3, 3) + (0,) * 6, (1,) * 8, 3)
        bakery = Bakery(*parts)
        self.assertEqual([bakery.thrown(day) for day in range(8)], [0, 0, 0, 2, 0, 0, 0, 0])
        self.assertEqual([judge_days(bakery, 8, [1, 2, 3]), judge_days(bakery, 8, [0, 1, 2, 3])], [6, 4])
        self.check(parts, 8, 4)
        self.check(parts, 4, 4)
        self.check(parts, 2, 2)

    def test_stock_from_the_first_day_on(self):
        parts = ((40,) + (0,) * 23, (1,) * 24, 30)
        self.check(parts, 200, 200)
        self.assertEqual(judge_days(Bakery(*parts), 200, list(range(200))), 200)


class OtherOrdersTest(unittest.TestCase):
    def play_all_orders(self, bakes, demands, life, days):
        """Returns all (sold, thrown) that selling any loaves, as many as customers want or fewer, can lead to."""
        found = {((0,) * life, 0, 0)}
        for day in range(days):
            later = set()
            for before, sold, thrown in found:
                counts = (bakes[day % len(bakes)],) + before[:-1]
                for taken in itertools.product(*[range(count + 1) for count in counts]):
                    if sum(taken) > demands[day % len(demands)]:
                        continue
                    left = tuple(count - some for count, some in zip(counts, taken))
                    later.add((left, sold + sum(taken), thrown + left[-1]))
            found = later
        return [(sold, thrown) for _, sold, thrown in found]

    def test_no_order_is_better(self):
        for parts in random_parts(51, 60, 4, 3, 3):
            for days in (1, 3, 5):
                with self.subTest(parts=parts, days=days):
                    ways = self.play_all_orders(*parts, days)
                    sold, _, thrown = Bakery(*parts).totals(days)
                    self.assertEqual(max(ways)[0], sold)
                    self.assertEqual(min(way[1] for way in ways), thrown)
                    self.assertEqual(judge_days(Bakery(*parts), days, find_days(Bakery(*parts), days)), sold)

    def test_random_orders_of_long_lives(self):
        source = random.Random(52)
        for bakes, demands, life in random_parts(53, 80, 12, 9, 30):
            loaves = []
            totals = [0, 0, 0]
            bakery = Bakery(bakes, demands, life)
            for day in range(80):
                loaves += [day] * bakes[day % len(bakes)]
                source.shuffle(loaves)
                sold = min(len(loaves), demands[day % len(demands)])
                fresh = [baked for baked in loaves[sold:] if baked + life - 1 > day]
                totals[0] += sold
                totals[1] += demands[day % len(demands)] - sold
                totals[2] += len(loaves) - sold - len(fresh)
                loaves = fresh
                oldest = bakery.totals(day + 1)
                self.assertLessEqual(totals[0], oldest[0])
                self.assertGreaterEqual(totals[1], oldest[1])
                self.assertGreaterEqual(totals[2], oldest[2])


class NewestFirstTest(unittest.TestCase):
    def plain_newest(self, bakes, demands, life, days):
        rows = play_days(lambda day, stock, sold: bakes[day % len(bakes)], demands, life, days, newest=True)
        return sum_rows(rows, 4)[1:]

    def test_example(self):
        self.assertEqual(newest_first(EXAMPLE, 6), (10, 0, 2))

    def test_no_days(self):
        for parts in random_parts(54, 20, 24, MOST, 30):
            self.assertEqual(newest_first(Bakery(*parts), 0), (0, 0, 0))

    def test_worse_than_the_oldest_first(self):
        # The loaves of day 0 get too old while those of the later days are sold.
        bakery = Bakery((2, 1, 1, 0), (1, 1, 1, 1), 4)
        self.assertEqual(bakery.totals(4), (4, 0, 0))
        self.assertEqual(newest_first(bakery, 4), (4, 0, 0))
        bakery = bakery.with_life(3)
        self.assertEqual(bakery.totals(4), (4, 0, 0))
        self.assertEqual([newest_first(bakery, days) for days in (2, 3, 4)], [(2, 0, 0), (3, 0, 1), (3, 1, 1)])

    def test_plain_simulation(self):
        many = random_parts(55, 400, 6, 8, 9) + random_parts(56, 60, 2, 8, 30) + random_parts(57, 40, 24, 12, 30)
        for parts in many + LATE_PARTS:
            for days in (1, 2, 5, 31, 100):
                with self.subTest(parts=parts, days=days):
                    self.assertEqual(newest_first(Bakery(*parts), days), self.plain_newest(*parts, days))

    def test_thousand_days(self):
        for parts in random_parts(58, 20, 24, 9, 30) + LATE_PARTS:
            self.assertEqual(newest_first(Bakery(*parts), 1000), self.plain_newest(*parts, 1000))
        self.assertEqual(newest_first(Bakery((MOST,), (0,), 30), 1000), (0, 0, 971 * MOST))
        self.assertEqual(newest_first(Bakery((0,), (MOST,), 30), 1000), (0, 1000 * MOST, 0))
        self.assertEqual(newest_first(Bakery((MOST,), (MOST - 1,), 30), 1000), (1000 * (MOST - 1), 0, 971))

    def test_never_better_than_the_oldest_first(self):
        for parts in random_parts(59, 300, 24, MOST, 30) + random_parts(60, 300, 7, 20, 10) + LATE_PARTS:
            bakery = Bakery(*parts)
            for days in (1, 3, 30, 300):
                newest = newest_first(bakery, days)
                oldest = bakery.totals(days)
                self.assertLessEqual(newest[0], oldest[0])
                self.assertGreaterEqual(newest[1], oldest[1])
                self.assertGreaterEqual(newest[2], oldest[2])
                self.assertEqual(newest[0] + newest[1], oldest[0] + oldest[1])

    def test_life_one_leaves_no_choice(self):
        for bakes, demands, _ in random_parts(61, 60, 24, MOST, 30):
            bakery = Bakery(bakes, demands, 1)
            self.assertEqual(newest_first(bakery, 100), bakery.totals(100))


class RepeatedCallsTest(unittest.TestCase):
    def test_equal_results_and_unchanged_arguments(self):
        bakery = Bakery((5, 0, 4), (2, 1, 2), 3)
        chosen = [0, 2, 5]
        first = (judge_days(bakery, 9, chosen), find_days(bakery, 9), newest_first(bakery, 9))
        for _ in range(3):
            again = (judge_days(bakery, 9, chosen), find_days(bakery, 9), newest_first(bakery, 9))
            self.assertEqual(again, first)
        self.assertEqual(chosen, [0, 2, 5])
        self.assertEqual((bakery.bakes, bakery.demands, bakery.life), ((5, 0, 4), (2, 1, 2), 3))

    def test_found_list_is_the_callers_own(self):
        bakery = Bakery((5, 0, 4), (2, 1, 2), 3)
        found = find_days(bakery, 9)
        self.assertGreater(len(found), 0)
        expected = list(found)
        found.append(100)
        found[0] = -7
        self.assertEqual(find_days(bakery, 9), expected)

    def test_errors_change_nothing(self):
        bakery = Bakery((5, 0, 4), (2, 1, 2), 3)
        chosen = [2, 1]
        for call in (lambda: judge_days(bakery, 3, chosen), lambda: judge_days(bakery, 0, chosen)):
            with self.assertRaises((InvalidDays, InvalidNumber)):
                call()
        self.assertEqual(chosen, [2, 1])
        self.assertEqual(bakery.totals(9), Bakery((5, 0, 4), (2, 1, 2), 3).totals(9))


if __name__ == "__main__":
    unittest.main()
