"""Point 2: what a bakery is made of, and what is wrong with it; point 1 for bakeries."""

import unittest

from staleloaves.bakeries import Bakery
from staleloaves.errors import InvalidBakery, InvalidNumber

MOST = 10 ** 9


class PartsTest(unittest.TestCase):
    def test_example(self):
        bakery = Bakery((3, 0, 4), (2, 1, 2), 2)
        found = [bakery.bakes, bakery.demands, bakery.life, bakery.settled_day, bakery.long_run]
        self.assertEqual(found, [(3, 0, 4), (2, 1, 2), 2, 2, (5, 0, 2)])

    def test_properties_return_what_it_was_made_of(self):
        bakery = Bakery((0, MOST), (MOST, 0), 30)
        self.assertEqual((bakery.bakes, bakery.demands, bakery.life), ((0, MOST), (MOST, 0), 30))

    def test_class_values(self):
        self.assertEqual((Bakery.MAX_DAYS, Bakery.MAX_LIFE), (24, 30))
        bakery = Bakery((1,), (1,), 1)
        self.assertEqual((bakery.MAX_DAYS, bakery.MAX_LIFE), (24, 30))

    def test_members_are_defined_in_the_class_itself(self):
        names = ("bakes demands life settled_day long_run with_life baking_more stock sold missed thrown"
                 " totals shelf MAX_DAYS MAX_LIFE").split()
        for name in names:
            self.assertIn(name, vars(Bakery))

    def test_limits_are_allowed(self):
        for length in (1, 24):
            for amount in (0, MOST):
                for life in (1, 30):
                    bakery = Bakery((amount,) * length, (amount,) * length, life)
                    self.assertEqual(bakery.bakes, (amount,) * length)

    def test_with_life(self):
        bakery = Bakery((3, 0, 4), (2, 1, 2), 2)
        other = bakery.with_life(5)
        self.assertIsInstance(other, Bakery)
        self.assertEqual((other.bakes, other.demands, other.life), ((3, 0, 4), (2, 1, 2), 5))
        self.assertEqual([bakery.with_life(life).life for life in (1, 2, 30)], [1, 2, 30])
        self.assertEqual(bakery.life, 2)

    def test_baking_more(self):
        bakery = Bakery((3, 0, 4), (2, 1, 2), 2)
        other = bakery.baking_more(2)
        self.assertIsInstance(other, Bakery)
        self.assertEqual((other.bakes, other.demands, other.life), ((5, 2, 6), (2, 1, 2), 2))
        self.assertEqual(other.baking_more(-2).bakes, (3, 0, 4))
        self.assertEqual(bakery.baking_more(0).bakes, (3, 0, 4))
        self.assertEqual(bakery.baking_more(MOST - 4).bakes, (MOST - 1, MOST - 4, MOST))
        self.assertEqual(bakery.bakes, (3, 0, 4))

    def test_changed_bakeries_behave_as_new_ones(self):
        bakery = Bakery((3, 0, 4), (2, 5, 2), 1)
        for other, new in ((bakery.with_life(3), Bakery((3, 0, 4), (2, 5, 2), 3)),
                           (bakery.baking_more(1), Bakery((4, 1, 5), (2, 5, 2), 1))):
            self.assertEqual((other.settled_day, other.long_run), (new.settled_day, new.long_run))
            self.assertEqual([other.shelf(day) for day in range(9)], [new.shelf(day) for day in range(9)])
            self.assertEqual(other.totals(50), new.totals(50))


class FaultsTest(unittest.TestCase):
    def assert_fault(self, part, index, make, *arguments):
        with self.assertRaises(InvalidBakery) as caught:
            make(*arguments)
        self.assertEqual((caught.exception.part, caught.exception.index), (part, index))

    def test_example(self):
        self.assert_fault("demands", 1, Bakery, (3, 4), (2, -1), 2)

    def test_number_out_of_range_at_each_index(self):
        for length in (1, 2, 24):
            for at in range(length):
                for wrong in (-1, MOST + 1, -10 ** 20, 10 ** 20):
                    good = (5,) * length
                    bad = good[:at] + (wrong,) + good[at + 1:]
                    self.assert_fault("bakes", at, Bakery, bad, good, 2)
                    self.assert_fault("demands", at, Bakery, good, bad, 2)

    def test_first_of_several_numbers(self):
        self.assert_fault("bakes", 1, Bakery, (0, -1, MOST + 1), (0, 0, 0), 1)
        self.assert_fault("bakes", 1, Bakery, (0, MOST + 1, -1), (0, 0, 0), 1)
        self.assert_fault("demands", 0, Bakery, (0, 0, 0), (MOST + 1, 0, -1), 1)

    def test_twenty_fifth_number(self):
        good = (1,) * 24
        for length in (25, 26, 40):
            self.assert_fault("bakes", 24, Bakery, (1,) * length, good, 1)
            self.assert_fault("bakes", 24, Bakery, (1,) * length, (1,) * length, 1)
            self.assert_fault("demands", 24, Bakery, good, (1,) * length, 1)
        self.assert_fault("demands", 24, Bakery, (1, 2), (1,) * 25, 1)

    def test_twenty_fifth_number_beside_one_out_of_range(self):
        self.assert_fault("bakes", 23, Bakery, (1,) * 23 + (-1, 1), (1,), 1)
        self.assert_fault("bakes", 24, Bakery, (1,) * 24 + (-1,), (1,), 1)
        self.assert_fault("bakes", 24, Bakery, (1,) * 25 + (-1,), (1,), 1)
        self.assert_fault("demands", 3, Bakery, (1,), (1, 1, 1, -1) + (1,) * 30, 1)
        self.assert_fault("demands", 24, Bakery, (1,), (1,) * 24 + (MOST + 1,), 1)

    def test_none_or_not_as_many(self):
        self.assert_fault("bakes", -1, Bakery, (), (), 1)
        self.assert_fault("bakes", -1, Bakery, (), (1,), 1)
        self.assert_fault("demands", -1, Bakery, (1,), (), 1)
        self.assert_fault("demands", -1, Bakery, (1, 2), (1,), 1)
        self.assert_fault("demands", -1, Bakery, (1,), (1, 2), 1)
        self.assert_fault("demands", -1, Bakery, (1,) * 23, (1,) * 24, 1)

    def test_life(self):
        for wrong in (0, -1, 31, 10 ** 20):
            self.assert_fault("life", -1, Bakery, (1,), (1,), wrong)

    def test_order_of_the_parts(self):
        self.assert_fault("bakes", 1, Bakery, (1, -1), (-1, 1), 0)
        self.assert_fault("bakes", -1, Bakery, (), (-1,), 0)
        self.assert_fault("bakes", 24, Bakery, (1,) * 25, (-1,), 0)
        self.assert_fault("demands", 2, Bakery, (1,), (1, 1, -1), 0)
        self.assert_fault("demands", -1, Bakery, (1,), (1, 1), 0)

    def test_with_life(self):
        bakery = Bakery((3, 0, 4), (2, 1, 2), 2)
        for wrong in (0, 31, -5):
            self.assert_fault("life", -1, bakery.with_life, wrong)
        self.assertEqual((bakery.life, bakery.totals(10)), (2, (17, 0, 4)))

    def test_baking_more(self):
        bakery = Bakery((3, 0, MOST - 4), (2, 1, 2), 2)
        self.assert_fault("bakes", 1, bakery.baking_more, -1)
        self.assert_fault("bakes", 0, bakery.baking_more, -4)
        self.assert_fault("bakes", 2, bakery.baking_more, 5)
        self.assert_fault("bakes", 0, bakery.baking_more, MOST)
        self.assertEqual(bakery.bakes, (3, 0, MOST - 4))


class RepeatedCallsTest(unittest.TestCase):
    def observe(self, bakery):
        days = [0, 1, 4, 5, 100, 10 ** 18]
        return [[bakery.stock(day), bakery.sold(day), bakery.missed(day), bakery.thrown(day), bakery.totals(day),
                 bakery.shelf(day)] for day in days] + [bakery.settled_day, bakery.long_run, bakery.bakes]

    def test_equal_results(self):
        bakery = Bakery((3, 0, 4), (2, 1, 2), 2)
        self.assertEqual(self.observe(bakery), self.observe(bakery))

    def test_returned_lists_are_the_callers_own(self):
        bakery = Bakery((3, 0, 4), (2, 1, 2), 2)
        before = self.observe(bakery)
        shelf = bakery.shelf(4)
        self.assertIs(type(shelf), list)
        shelf.append((9, 9))
        bakery.shelf(5).append((9, 9))
        self.assertEqual(self.observe(bakery), before)

    def test_errors_change_nothing(self):
        bakery = Bakery((3, 0, 4), (2, 1, 2), 2)
        before = self.observe(bakery)
        for call in (bakery.stock, bakery.totals, bakery.shelf, bakery.sold, bakery.missed, bakery.thrown):
            with self.assertRaises(InvalidNumber):
                call(-1)
        for call in (bakery.with_life, bakery.baking_more):
            with self.assertRaises(InvalidBakery):
                call(-1)
        self.assertEqual(self.observe(bakery), before)


if __name__ == "__main__":
    unittest.main()
