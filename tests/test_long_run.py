"""Point 5: the settled day and the long run."""

import unittest

from staleloaves.bakeries import Bakery
from tests.simulation import LATE_PARTS, Simulation, random_parts

MOST = 10 ** 9


class PlainSimulationTest(unittest.TestCase):
    def test_many_bakeries(self):
        for parts in random_parts(11, 1500, 6, 8, 9) + random_parts(12, 60, 24, 12, 30):
            with self.subTest(parts=parts):
                bakery = Bakery(*parts)
                plain = Simulation(*parts)
                self.assertEqual(bakery.settled_day, plain.settled_day())
                self.assertEqual(bakery.long_run, plain.long_run())

    def test_bakeries_that_settle_late(self):
        late = []
        for parts in LATE_PARTS:
            with self.subTest(parts=parts):
                bakery = Bakery(*parts)
                plain = Simulation(*parts)
                self.assertEqual(bakery.settled_day, plain.settled_day())
                self.assertEqual(bakery.long_run, plain.long_run())
                late.append(bakery.settled_day > 10 * len(parts[0]))
        self.assertTrue(all(late))


class SettledDayTest(unittest.TestCase):
    def test_smallest_day_also_of_large_bakeries(self):
        for parts in random_parts(13, 150, 24, MOST, 30) + random_parts(14, 150, 24, 90, 30):
            with self.subTest(parts=parts):
                bakery = Bakery(*parts)
                length = len(parts[0])
                first = bakery.settled_day
                for day in list(range(first, first + 2 * length)) + [first + 10 ** 15, 10 ** 18 - length]:
                    self.assertEqual(bakery.stock(day), bakery.stock(day + length))
                if first > 0:
                    self.assertNotEqual(bakery.stock(first - 1), bakery.stock(first - 1 + length))

    def test_very_late(self):
        bakery = Bakery((MOST,), (MOST - 1,), 30)
        self.assertEqual((bakery.settled_day, bakery.long_run), (29 * MOST, (MOST - 1, 0, 1)))
        bakery = Bakery((MOST,) * 24, (MOST,) * 23 + (MOST - 1,), 30)
        self.assertEqual((bakery.settled_day, bakery.long_run), (24 * 29 * MOST, (24 * MOST - 1, 0, 1)))

    def test_last_step_smaller_than_the_others(self):
        # The stock grows by 4 a day, up to 10, which is no multiple of 4.
        bakery = Bakery((10,), (6,), 2)
        self.assertEqual([bakery.stock(day) for day in range(5)], [0, 4, 8, 10, 10])
        self.assertEqual((bakery.settled_day, bakery.long_run), (3, (6, 0, 4)))

    def test_at_once(self):
        for parts in (((0,), (0,), 1), ((5,), (9,), 30), ((9,), (5,), 1), ((4, 4), (4, 4), 7)):
            self.assertEqual(Bakery(*parts).settled_day, 0)

    def test_within_the_first_round(self):
        # On day 0 there are no loaves of the day before yet; on day 2 there are.
        bakery = Bakery((0, 5), (3, 1), 2)
        self.assertEqual([bakery.stock(day) for day in range(6)], [0, 0, 4, 0, 4, 0])
        self.assertEqual((bakery.settled_day, bakery.long_run), (1, (4, 0, 1)))


class LongRunTest(unittest.TestCase):
    def test_totals_grow_by_it(self):
        for parts in random_parts(15, 150, 24, MOST, 30) + random_parts(16, 150, 24, 90, 30):
            bakery = Bakery(*parts)
            length = len(parts[0])
            for day in (bakery.settled_day, bakery.settled_day + 5, 10 ** 17):
                pairs = zip(bakery.totals(day), bakery.totals(day + length))
                self.assertEqual(tuple(late - early for early, late in pairs), bakery.long_run)


if __name__ == "__main__":
    unittest.main()
