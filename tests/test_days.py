"""Points 3 and 4: what happens on each day, as playing every loaf gives it, and far days as their shelves tell."""

import random
import unittest

from staleloaves.bakeries import Bakery
from staleloaves.errors import InvalidNumber
from tests.simulation import LATE_PARTS, Simulation, play_shelf, random_parts

LAST = 10 ** 18


class ExamplesTest(unittest.TestCase):
    def setUp(self):
        self.bakery = Bakery((3, 0, 4), (2, 1, 2), 2)

    def test_days(self):
        bakery = self.bakery
        found = [[bakery.stock(day), bakery.sold(day), bakery.missed(day), bakery.thrown(day)] for day in (3, 4, 5)]
        self.assertEqual(found, [[2, 2, 0, 0], [3, 1, 0, 2], [0, 2, 0, 0]])

    def test_totals(self):
        found = [self.bakery.totals(3), self.bakery.totals(10 ** 18)]
        self.assertEqual(found, [(5, 0, 0), (1666666666666666667, 0, 666666666666666664)])

    def test_shelf(self):
        self.assertEqual([self.bakery.shelf(4), self.bakery.shelf(5)], [[(3, 3)], []])

    def test_shelf_has_several_days_without_zeros(self):
        bakery = Bakery((5, 0, 2, 1), (1, 0, 0, 1), 4)
        self.assertEqual(bakery.shelf(4), [(2, 2), (3, 1)])
        self.assertEqual(bakery.shelf(3), [(0, 4), (2, 2)])
        self.assertEqual(bakery.thrown(3), 3)

    def test_nothing_at_the_beginning(self):
        for bakes, demands, life in random_parts(1, 40, 24, 10 ** 9, 30):
            bakery = Bakery(bakes, demands, life)
            self.assertEqual((bakery.stock(0), bakery.shelf(0), bakery.totals(0)), (0, [], (0, 0, 0)))


class NumbersTest(unittest.TestCase):
    def calls(self):
        bakery = Bakery((3, 0, 4), (2, 1, 2), 2)
        return [bakery.stock, bakery.sold, bakery.missed, bakery.thrown, bakery.totals, bakery.shelf]

    def test_beyond_the_limits(self):
        for call in self.calls():
            for wrong in (-1, LAST + 1, -LAST, 10 ** 30):
                with self.subTest(call=call, wrong=wrong), self.assertRaises(InvalidNumber):
                    call(wrong)

    def test_at_the_limits(self):
        # 10 ** 18 is 1 more than a multiple of 3, and the bakery is settled.
        self.assertEqual([call(0) for call in self.calls()], [0, 2, 0, 0, (0, 0, 0), []])
        self.assertEqual([call(LAST) for call in self.calls()[:4]], [3, 1, 0, 2])
        self.assertEqual(self.calls()[5](LAST), [(LAST - 1, 3)])


class PlainSimulationTest(unittest.TestCase):
    def compare(self, bakes, demands, life):
        bakery = Bakery(bakes, demands, life)
        plain = Simulation(bakes, demands, life)
        total = (0, 0, 0)
        for day in range(len(plain.sales) + 2 * len(bakes) + 2):
            self.assertEqual(bakery.totals(day), total)
            self.assertEqual(bakery.shelf(day), plain.shelf(day))
            self.assertEqual(bakery.stock(day), plain.stock(day))
            sales = (bakery.sold(day), bakery.missed(day), bakery.thrown(day))
            self.assertEqual(sales, plain.sales_on(day))
            total = tuple(sum(pair) for pair in zip(total, sales))

    def test_many_bakeries(self):
        for parts in random_parts(2, 700, 6, 7, 9) + random_parts(3, 60, 24, 12, 30):
            with self.subTest(parts=parts):
                self.compare(*parts)

    def test_bakeries_that_settle_late(self):
        for parts in LATE_PARTS:
            with self.subTest(parts=parts):
                self.compare(*parts)

    def test_days_far_behind_the_played_ones(self):
        for parts in random_parts(4, 200, 6, 7, 9):
            bakery = Bakery(*parts)
            plain = Simulation(*parts)
            for day in (10 ** 6, 10 ** 17 + 3, LAST - 1, LAST):
                self.assertEqual((bakery.stock(day), bakery.shelf(day)), (plain.stock(day), plain.shelf(day)))
                self.assertEqual((bakery.sold(day), bakery.missed(day), bakery.thrown(day)), plain.sales_on(day))

    def test_totals_are_plain_sums(self):
        for parts in random_parts(5, 60, 5, 6, 6):
            plain = Simulation(*parts)
            for days in (1, 7, 100, 333):
                self.assertEqual(Bakery(*parts).totals(days), plain.totals(days))


class FarDaysTest(unittest.TestCase):
    def follow(self, parts, day):
        """Compares a day with what its shelf, played by counts, gives, and the totals with the day."""
        bakes, demands, life = parts
        bakery = Bakery(*parts)
        at = day % len(bakes)
        sold, missed, thrown, after = play_shelf(bakery.shelf(day), day, bakes[at], demands[at], life)
        self.assertEqual((bakery.sold(day), bakery.missed(day), bakery.thrown(day)), (sold, missed, thrown))
        self.assertEqual(bakery.shelf(day + 1), after)
        self.assertEqual(bakery.stock(day), sum(count for _, count in bakery.shelf(day)))
        pairs = zip(bakery.totals(day), bakery.totals(day + 1))
        self.assertEqual(tuple(late - early for early, late in pairs), (sold, missed, thrown))

    def test_days_follow_from_their_shelves(self):
        source = random.Random(6)
        for parts in random_parts(7, 60, 24, 10 ** 9, 30) + random_parts(8, 60, 24, 50, 30):
            late = Bakery(*parts).settled_day
            days = [source.randrange(10 ** source.randint(1, 18)) for _ in range(8)] + [LAST - 1]
            days += [day for day in range(late - 2, late + 2) if day >= 0]
            for day in days:
                with self.subTest(parts=parts, day=day):
                    self.follow(parts, day)

    def test_slow_growth(self):
        # One loaf more stays each day, until 29 days' bakes lie there.
        most = 10 ** 9
        parts = ((most,), (most - 1,), 30)
        bakery = Bakery(*parts)
        for day in (1, 29, 12345678901, 29 * most - 1, 29 * most, 29 * most + 1, LAST - 1):
            self.follow(parts, day)
            self.assertEqual(bakery.stock(day), min(day, 29 * most))
            self.assertEqual(bakery.thrown(day), 1 if day >= 29 * most else 0)
        self.assertEqual(bakery.totals(LAST), (LAST * (most - 1), 0, LAST - 29 * most))
        self.assertEqual(bakery.shelf(LAST)[0], (LAST - 29, most))

    def test_slow_growth_over_a_long_round(self):
        most = 10 ** 9
        parts = ((most,) * 24, (most,) * 23 + (most - 1,), 30)
        bakery = Bakery(*parts)
        for rounds in (1, 2, 10 ** 9, 29 * most - 1):
            for day in (24 * rounds - 1, 24 * rounds, 24 * rounds + 23):
                self.follow(parts, day)
                self.assertEqual(bakery.stock(day), (day // 24))
        self.assertEqual(bakery.stock(LAST), 29 * most)
        self.assertEqual(bakery.totals(LAST)[1:], (0, LAST // 24 - 29 * most))

    def test_last_day(self):
        for parts in random_parts(9, 60, 24, 10 ** 9, 30):
            bakery = Bakery(*parts)
            length = len(parts[0])
            self.assertEqual(bakery.stock(LAST), bakery.stock(LAST - length))
            self.assertEqual(bakery.stock(LAST), sum(count for _, count in bakery.shelf(LAST)))
            before = [(day - length, count) for day, count in bakery.shelf(LAST)]
            self.assertEqual(bakery.shelf(LAST - length), before)
            self.assertEqual(bakery.sold(LAST), bakery.sold(LAST - length))


if __name__ == "__main__":
    unittest.main()
