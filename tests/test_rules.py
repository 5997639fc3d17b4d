"""Points 10 and 11: the rules of bakers, and what comes of them; point 3 for these."""

import random
import unittest

from staleloaves.bakeries import Bakery
from staleloaves.errors import InvalidBakery, InvalidNumber, InvalidRule
from staleloaves.rules import RefillRule, Rule, SoldRule, outcome, run
from tests.simulation import play_days, play_shelf, random_parts, sum_rows

MOST = 10 ** 9


class KindsTest(unittest.TestCase):
    def test_class_values(self):
        self.assertEqual([kind.KIND for kind in (Rule, RefillRule, SoldRule)], ["fixed", "refill", "sold"])
        rules = [Rule(1), RefillRule(1), SoldRule(1), SoldRule(1, more=2)]
        self.assertEqual([rule.KIND for rule in rules], ["fixed", "refill", "sold", "sold"])

    def test_all_are_kinds_of_rule(self):
        for rule in (Rule(1), RefillRule(1), SoldRule(1)):
            self.assertIsInstance(rule, Rule)
        self.assertFalse(issubclass(RefillRule, SoldRule) or issubclass(SoldRule, RefillRule))

    def test_names_of_arguments(self):
        calls = (Rule(amount=3), RefillRule(goal=3), SoldRule(amount=3, more=0))
        for rule in calls:
            self.assertEqual(list(run(rule=rule, demands=(3,), life=1, days=2)), [(3, 3, 0, 0)] * 2)
            self.assertEqual(outcome(rule=rule, demands=(3,), life=1, days=2), (6, 6, 0, 0))
        with self.assertRaises(TypeError):
            SoldRule(3, 0)

    def test_members_are_defined_in_the_class_itself(self):
        for kind in (Rule, RefillRule, SoldRule):
            self.assertIn("__init__", vars(kind))
            self.assertIn("KIND", vars(kind))


class FaultsTest(unittest.TestCase):
    def assert_fault(self, part, make, *arguments, **named):
        with self.subTest(arguments=arguments, named=named), self.assertRaises(InvalidRule) as caught:
            make(*arguments, **named)
        self.assertEqual(caught.exception.part, part)

    def test_example(self):
        self.assert_fault("more", SoldRule, 4, more=2 * 10 ** 9)

    def test_each_part(self):
        for wrong in (-1, MOST + 1, -10 ** 20, 10 ** 20):
            self.assert_fault("amount", Rule, wrong)
            self.assert_fault("goal", RefillRule, wrong)
            self.assert_fault("amount", SoldRule, wrong)
            self.assert_fault("amount", SoldRule, wrong, more=5)
        for wrong in (-MOST - 1, MOST + 1, -10 ** 20, 10 ** 20):
            self.assert_fault("more", SoldRule, 0, more=wrong)
            self.assert_fault("more", SoldRule, MOST, more=wrong)

    def test_amount_comes_ahead_of_more(self):
        for wrong in (-1, MOST + 1):
            for more in (-MOST - 1, MOST + 1):
                self.assert_fault("amount", SoldRule, wrong, more=more)

    def test_limits_are_allowed(self):
        for amount in (0, MOST):
            self.assertEqual(outcome(Rule(amount), (0,), 1, 1), (amount, 0, 0, amount))
            self.assertEqual(outcome(RefillRule(amount), (0,), 1, 1), (amount, 0, 0, amount))
            for more in (-MOST, 0, MOST):
                self.assertEqual(outcome(SoldRule(amount, more=more), (0,), 1, 1), (amount, 0, 0, amount))

    def assert_bakery_fault(self, part, index, demands, life, days):
        for rule in (Rule(3), RefillRule(3), SoldRule(3, more=1)):
            for call in (lambda: list(run(rule, demands, life, days)), lambda: outcome(rule, demands, life, days)):
                with self.subTest(demands=demands, life=life), self.assertRaises(InvalidBakery) as caught:
                    call()
                self.assertEqual((caught.exception.part, caught.exception.index), (part, index))

    def test_bakery_errors(self):
        self.assert_bakery_fault("bakes", -1, (), 2, 5)
        for length in (1, 2, 24):
            for at in range(length):
                for wrong in (-1, MOST + 1):
                    demands = (3,) * at + (wrong,) + (3,) * (length - at - 1)
                    self.assert_bakery_fault("demands", at, demands, 2, 5)
        for wrong in (0, -1, 31, 10 ** 20):
            self.assert_bakery_fault("life", -1, (3,), wrong, 5)

    def test_too_many_demands_are_too_many_bakes_first(self):
        # A bakery with 25 demands that never bakes anything has 25 bakes of 0, and the bakes are checked first.
        for demands in ((3,) * 25, (3,) * 40, (-1,) * 25, (3,) * 24 + (-1,)):
            self.assert_bakery_fault("bakes", 24, demands, 2, 5)

    def test_order_of_the_errors(self):
        for days in (-1, 10001):
            self.assert_bakery_fault("bakes", -1, (), 0, days)
            self.assert_bakery_fault("demands", 1, (1, -1), 0, days)
            self.assert_bakery_fault("life", -1, (1, 1), 0, days)

    def test_numbers_of_days(self):
        for rule in (Rule(3), RefillRule(3), SoldRule(3)):
            for wrong in (-1, 10001, -10 ** 20, 10 ** 20):
                with self.subTest(wrong=wrong), self.assertRaises(InvalidNumber):
                    list(run(rule, (3, 1), 2, wrong))
                with self.subTest(wrong=wrong), self.assertRaises(InvalidNumber):
                    outcome(rule, (3, 1), 2, wrong)

    def test_errors_are_raised_when_the_iteration_begins(self):
        for arguments, error in ((((), 2, 5), InvalidBakery), (((1,), 31, 5), InvalidBakery),
                                 (((1,), 2, -1), InvalidNumber), (((1,), 2, 10001), InvalidNumber)):
            rows = run(Rule(3), *arguments)
            self.assertIs(iter(rows), rows)
            with self.assertRaises(error):
                next(rows)


class RunTest(unittest.TestCase):
    def test_examples(self):
        self.assertEqual(list(run(RefillRule(4), (3, 1), 2, 3)), [(4, 3, 0, 0), (3, 1, 0, 0), (1, 3, 0, 0)])
        self.assertEqual(outcome(Rule(2), (3, 1), 1, 4), (8, 6, 2, 2))

    def test_is_a_generator(self):
        rows = run(Rule(2), (3, 1), 1, 10000)
        self.assertEqual([next(rows), next(rows), next(rows)], [(2, 2, 1, 0), (2, 1, 0, 1), (2, 2, 1, 0)])

    def test_no_days(self):
        for rule in (Rule(3), RefillRule(3), SoldRule(3)):
            self.assertEqual(list(run(rule, (3, 1), 2, 0)), [])
            self.assertEqual(outcome(rule, (3, 1), 2, 0), (0, 0, 0, 0))

    def test_refilling_to_the_goal(self):
        rows = list(run(RefillRule(5), (1, 7, 0), 2, 7))
        self.assertEqual(rows, [(5, 1, 0, 0), (1, 5, 2, 0), (5, 0, 0, 0), (0, 1, 0, 4), (5, 5, 2, 0), (5, 0, 0, 0),
                                (0, 1, 0, 4)])

    def test_as_many_as_were_sold_and_more(self):
        rows = list(run(SoldRule(4, more=1), (3, 9), 2, 5))
        self.assertEqual(rows, [(4, 3, 0, 0), (4, 5, 4, 0), (6, 3, 0, 0), (4, 7, 2, 0), (8, 3, 0, 0)])
        rows = list(run(SoldRule(4), (1, 9), 1, 4))
        self.assertEqual(rows, [(4, 1, 0, 3), (1, 1, 8, 0), (1, 1, 0, 0), (1, 1, 8, 0)])

    def test_at_least_none_and_at_most_the_limit(self):
        self.assertEqual([row[0] for row in run(SoldRule(9, more=-2), (5, 5), 1, 5)], [9, 3, 1, 0, 0])
        self.assertEqual([row[0] for row in run(SoldRule(MOST, more=-MOST), (MOST,), 3, 3)], [MOST, 0, 0])
        self.assertEqual([row[0] for row in run(SoldRule(0, more=MOST), (MOST,), 1, 3)], [0, MOST, MOST])
        self.assertEqual([row[0] for row in run(SoldRule(1, more=MOST - 4), (6,), 1, 3)], [1, MOST - 3, MOST])
        self.assertEqual([row[0] for row in run(SoldRule(5, more=MOST - 4), (4,), 1, 3)], [5, MOST, MOST])
        self.assertEqual([row[0] for row in run(SoldRule(5, more=-5), (4, 5, 6), 30, 3)], [5, 0, 0])

    def choosers(self, source, most):
        """Returns pairs of a rule and of what point 10 says that it bakes."""
        amount, more = source.randint(0, most), source.randint(-most, most)
        goal = source.randint(0, min(MOST, 3 * most))
        step = source.choice((-1, 0, 1))
        return [(Rule(amount), lambda day, stock, sold: amount),
                (RefillRule(goal), lambda day, stock, sold: goal - stock if goal > stock else 0),
                (SoldRule(amount, more=more), lambda day, stock, sold: max(0, sold + more) if day else amount),
                (SoldRule(amount, more=step), lambda day, stock, sold: max(0, sold + step) if day else amount)]

    def test_plain_simulation(self):
        source = random.Random(81)
        many = random_parts(82, 250, 6, 9, 6) + random_parts(83, 60, 3, 9, 30) + random_parts(84, 40, 24, 9, 30)
        for _, demands, life in many:
            for rule, choose in self.choosers(source, 9):
                days = source.choice((1, 2, 20, 90))
                with self.subTest(kind=rule.KIND, demands=demands, life=life, days=days):
                    expected = play_days(choose, demands, life, days)
                    self.assertEqual(list(run(rule, demands, life, days)), expected)
                    self.assertEqual(outcome(rule, demands, life, days), sum_rows(expected, 4))

    def test_ten_thousand_days(self):
        source = random.Random(85)
        for demands, life in (((3, 0, 5), 2), ((4,), 30), ((1, 2) * 12, 7)):
            for rule, choose in self.choosers(source, 6):
                expected = play_days(choose, demands, life, 10000)
                self.assertEqual(list(run(rule, demands, life, 10000)), expected)
                self.assertEqual(outcome(rule, demands, life, 10000), sum_rows(expected, 4))
        self.assertEqual(outcome(Rule(MOST), (0,), 30, 10000), (10000 * MOST, 0, 0, 9971 * MOST))
        self.assertEqual(outcome(RefillRule(MOST), (0,), 30, 10000), (334 * MOST, 0, 0, 333 * MOST))
        self.assertEqual(outcome(SoldRule(MOST), (MOST,), 1, 10000), (10000 * MOST, 10000 * MOST, 0, 0))

    def test_fixed_rule_is_a_bakery(self):
        for bakes, demands, life in random_parts(86, 150, 24, MOST, 30) + random_parts(87, 100, 4, 9, 12):
            amount = bakes[0]
            bakery = Bakery((amount,) * len(demands), demands, life)
            rows = list(run(Rule(amount), demands, life, 120))
            self.assertEqual(rows, [(amount, bakery.sold(day), bakery.missed(day), bakery.thrown(day))
                                    for day in range(120)])
            for days in (0, 1, 50, 777):
                self.assertEqual(outcome(Rule(amount), demands, life, days), (days * amount, *bakery.totals(days)))

    def test_fixed_rule_is_a_bakery_for_all_days(self):
        bakery = Bakery((7,) * 5, (9, 0, 12, 6, 7), 4)
        self.assertEqual(outcome(Rule(7), bakery.demands, 4, 10000), (70000, *bakery.totals(10000)))

    def test_baked_loaves_are_sold_thrown_or_left(self):
        source = random.Random(88)
        for _, demands, life in random_parts(89, 60, 24, MOST, 30) + random_parts(90, 60, 5, 12, 30):
            for rule, _ in self.choosers(source, max(demands)):
                shelf = []
                stock = 0
                for day, (baked, sold, missed, thrown) in enumerate(run(rule, demands, life, 70)):
                    demand = demands[day % len(demands)]
                    *expected, shelf = play_shelf(shelf, day, baked, demand, life)
                    self.assertEqual([sold, missed, thrown], expected)
                    stock += baked - sold - thrown
                    self.assertEqual(stock, sum(count for _, count in shelf))

    def test_refill_rule_never_exceeds_its_goal(self):
        source = random.Random(91)
        for _, demands, life in random_parts(92, 100, 24, MOST, 30) + random_parts(93, 100, 5, 12, 30):
            goal = source.choice((0, 1, max(demands), min(MOST, 2 * max(demands)), MOST))
            stock = 0
            for baked, sold, _, thrown in run(RefillRule(goal), demands, life, 100):
                self.assertEqual(stock + baked, goal)
                stock += baked - sold - thrown
                self.assertTrue(0 <= stock <= goal)


class RepeatedCallsTest(unittest.TestCase):
    def test_equal_results(self):
        for rule in (Rule(4), RefillRule(7), SoldRule(4, more=1)):
            first = list(run(rule, (3, 1, 6), 2, 30))
            self.assertEqual(list(run(rule, (3, 1, 6), 2, 30)), first)
            self.assertEqual(outcome(rule, (3, 1, 6), 2, 30), sum_rows(first, 4))
            self.assertEqual(outcome(rule, (3, 1, 6), 2, 30), sum_rows(first, 4))

    def test_runs_at_the_same_time(self):
        for rule in (Rule(4), RefillRule(7), SoldRule(4, more=1)):
            expected = list(run(rule, (3, 1, 6), 2, 30)), list(run(rule, (9,), 5, 30))
            pairs = list(zip(run(rule, (3, 1, 6), 2, 30), run(rule, (9,), 5, 30)))
            self.assertEqual(([pair[0] for pair in pairs], [pair[1] for pair in pairs]), expected)

    def test_returned_lists_are_the_callers_own(self):
        rule = SoldRule(4, more=1)
        rows = list(run(rule, (3, 1), 2, 5))
        expected = list(rows)
        rows.clear()
        self.assertEqual(list(run(rule, (3, 1), 2, 5)), expected)
        self.assertTrue(all(type(row) is tuple for row in expected))
        self.assertIs(type(outcome(rule, (3, 1), 2, 5)), tuple)

    def test_errors_change_nothing(self):
        rule = SoldRule(4, more=1)
        expected = outcome(rule, (3, 1), 2, 5)
        for demands, life, days in (((), 2, 5), ((3, 1), 0, 5), ((3, 1), 2, -1)):
            with self.assertRaises((InvalidBakery, InvalidNumber)):
                outcome(rule, demands, life, days)
        self.assertEqual(outcome(rule, (3, 1), 2, 5), expected)


if __name__ == "__main__":
    unittest.main()
