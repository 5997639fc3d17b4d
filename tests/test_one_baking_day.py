"""Points 10 to 16 for bakeries that bake n loaves on the first of r days, with k customers on each day.

Where the life is at most r, the rounds have nothing to do with each other: on day d of a round, before the loaves
are too old, what is left of n - k * d loaves is sold, and n - k * life loaves at most are thrown away.
"""

import random
import unittest

from staleloaves.bakeries import Bakery
from staleloaves.live import Attempt, LiveBakery
from staleloaves.prices import Prices, best_more, first_profit, profit, round_profit
from staleloaves.reports import parse_report, report
from staleloaves.rules import RefillRule, Rule, SoldRule, outcome, run

MOST = 10 ** 9
LAST = 10 ** 18


def make_bakery(n, r, k, life):
    return Bakery((n,) + (0,) * (r - 1), (k,) * r, life)


def day_row(n, r, k, life, day):
    """Returns (day, baked, sold, missed, thrown) of a day, for a life of at most r."""
    at = day % r
    sold = max(0, min(k, n - k * at)) if at < life else 0
    thrown = max(0, n - k * life) if at == life - 1 else 0
    return day, n if at == 0 else 0, sold, k - sold, thrown


def known_sums(n, r, k, life, days):
    """Returns (baked, sold, missed, thrown) of the first so many days, for a life of at most r."""
    rounds, rest = divmod(days, r)
    baked = rounds * n + (n if rest > 0 else 0)
    sold = rounds * min(n, k * life) + min(n, k * min(rest, life))
    thrown = rounds * max(0, n - k * life) + (max(0, n - k * life) if rest >= life else 0)
    return baked, sold, days * k - sold, thrown


def known_profit(cents, sums):
    sale, cost, waste = cents
    baked, sold, _, thrown = sums
    return sale * sold - cost * baked - waste * thrown


def known_cases(seed, count, most):
    """Returns tuples (n, r, k, life), the life at most r, and prices for each."""
    source = random.Random(seed)
    found = []
    for _ in range(count):
        r = source.randint(1, 24)
        life = source.randint(1, r)
        k = source.choice((0, 1, source.randint(0, most // 24)))
        n = source.choice((0, 1, most, k * life, k * life + 1, k * r, source.randint(0, most)))
        cents = tuple(source.choice((0, 1, source.randint(0, 12), 10 ** 6)) for _ in range(3))
        found.append(((n, r, k, life), cents))
    return found


class ProfitsTest(unittest.TestCase):
    def test_all_days(self):
        for case, cents in known_cases(171, 60, 200) + known_cases(172, 60, MOST):
            bakery, prices = make_bakery(*case), Prices(*cents)
            for days in list(range(60)) + [999, 10 ** 9 + 3, LAST - 1, LAST]:
                self.assertEqual(profit(bakery, prices, days), known_profit(cents, known_sums(*case, days)))
            self.assertEqual(round_profit(bakery, prices), known_profit(cents, known_sums(*case, case[1])))

    def test_long_lives(self):
        # The loaves that the round leaves over are sold in the next one as long as customers are missed there.
        for n, r, k in ((60, 24, 2), (48, 24, 2), (40, 24, 2), (7, 2, 3), (6, 2, 3), (5, 2, 3), (9, 1, 4), (3, 1, 4)):
            for life in range(r, 31):
                sold = min(n, k * r)
                self.assertEqual(round_profit(make_bakery(n, r, k, life), Prices(9, 4, 2)),
                                 9 * sold - 4 * n - 2 * (n - sold))

    def test_first_profits(self):
        for case, cents in known_cases(173, 120, 200) + known_cases(174, 60, MOST):
            bakery, prices = make_bakery(*case), Prices(*cents)
            sums = [known_profit(cents, known_sums(*case, days)) for days in range(1001)]
            for goal in (0, 1, max(sums), max(sums) + 1, max(sums) // 2):
                if goal <= LAST:
                    expected = next((days for days, total in enumerate(sums) if total >= goal), None)
                    self.assertEqual(first_profit(bakery, prices, goal), expected)

    def test_one_sale_a_day(self):
        # 24 loaves cost 72 on the first day of each round, and each day brings 10.
        bakery, prices = make_bakery(24, 24, 1, 24), Prices(10, 3, 0)
        for goal, days in ((0, 0), (1, 8), (8, 8), (9, 9), (168, 24), (169, 32), (336, 48), (337, 56)):
            self.assertEqual(first_profit(bakery, prices, goal), days)
        # 41 whole rounds are 984 days, with 168 each; the 42nd one has brought 88 more by day 1000.
        self.assertEqual([first_profit(bakery, prices, 41 * 168), first_profit(bakery, prices, 41 * 168 + 88)],
                         [984, 1000])
        self.assertIsNone(first_profit(bakery, prices, 41 * 168 + 89))
        self.assertIsNone(first_profit(bakery, Prices(3, 3, 0), 1))


class BestMoreTest(unittest.TestCase):
    def known_round(self, n, r, k, life, cents, more):
        """Returns the profit per round if on each day so many more loaves are baked, none fewer."""
        # The loaves of the first day can be sold to the customers of their life only, and the older loaves never
        # keep more loaves of the other days from being sold than the round has too many.
        baked = n + r * more
        sold = min(baked, (r - 1) * more + k * life, r * k)
        return known_profit(cents, (baked, sold, None, baked - sold))

    def test_several_days(self):
        for (n, r, k, life), cents in known_cases(175, 200, 300):
            if r == 1:
                continue
            for longer in (life, 30):
                gains = [self.known_round(n, r, k, longer, cents, more) for more in range(k + 2)]
                expected = (gains.index(max(gains)), max(gains))
                self.assertEqual(best_more(make_bakery(n, r, k, longer), Prices(*cents)), expected)

    def test_great_amounts(self):
        # The gains rise and fall evenly between these edges.
        for (n, r, k, life), cents in known_cases(176, 200, MOST):
            if r == 1:
                continue
            edges = (k * life - n, (r * k - n) // r, k * (r - life) // (r - 1))
            places = [0, MOST - n] + [edge + step for edge in edges for step in (0, 1) if 0 <= edge + step <= MOST - n]
            gains = [(self.known_round(n, r, k, life, cents, more), -more) for more in places]
            best, less = max(gains)
            self.assertEqual(best_more(make_bakery(n, r, k, life), Prices(*cents)), (-less, best))

    def test_one_day(self):
        for n in (0, 1, 17, 10 ** 6, MOST):
            for k in (0, 1, 17, 10 ** 6, MOST):
                for life in (1, 2, 30):
                    bakery = Bakery((n,), (k,), life)
                    self.assertEqual(best_more(bakery, Prices(10, 3, 1)), (k - n, 7 * k))
                    self.assertEqual(best_more(bakery, Prices(10, 10, 0)), (-n, 0))
                    self.assertEqual(best_more(bakery, Prices(10, 11, 0)), (-n, 0))
                    self.assertEqual(best_more(bakery, Prices(10 ** 6, 0, 0)), (k - n, k * 10 ** 6))


class RulesTest(unittest.TestCase):
    def test_the_same_amount(self):
        for r in (1, 7, 24):
            for life in (1, 2, 30):
                self.assertEqual(outcome(Rule(3), (5,) * r, life, 100), (300, 300, 200, 0))
                self.assertEqual(outcome(Rule(5), (5,) * r, life, 100), (500, 500, 0, 0))
                # Two loaves more are left each day, until they are too old.
                self.assertEqual(outcome(Rule(7), (5,) * r, life, 100), (700, 500, 0, 200 - min(200, 7 * (life - 1))))

    def test_rules_that_follow_the_customers(self):
        for n, k, r in ((5, 5, 3), (40, 9, 24), (MOST, MOST // 5, 1)):
            # The stock stays the same, and each loaf is sold in time.
            rows = [(n, k, 0, 0)] + [(k, k, 0, 0)] * 50
            for life in (-(-n // k), 30):
                for rule in (RefillRule(n), SoldRule(n)):
                    self.assertEqual(list(run(rule, (k,) * r, life, 51)), rows)
                    self.assertEqual(outcome(rule, (k,) * r, life, 51), (n + 50 * k, 51 * k, 0, 0))

    def test_too_few_loaves(self):
        for n, k, r in ((0, 4, 2), (3, 4, 1), (MOST - 1, MOST, 24)):
            for life in (1, 2, 30):
                for rule in (Rule(n), RefillRule(n), SoldRule(n)):
                    self.assertEqual(list(run(rule, (k,) * r, life, 30)), [(n, n, k - n, 0)] * 30)

    def test_profits_of_rules(self):
        prices = Prices(10, 3, 1)
        for n, k, days in ((3, 5, 100), (5, 5, 100), (7, 5, 100), (7, 5, 3)):
            for life in (1, 2, 30):
                baked, sold, _, thrown = outcome(Rule(n), (k,), life, days)
                self.assertEqual(prices(baked, sold, thrown), profit(Bakery((n,), (k,), life), prices, days))


class BalancesTest(unittest.TestCase):
    def list_operations(self, n, r, k, days):
        found = []
        for day in range(days):
            if day % r == 0:
                found.append(("bake", n))
            found.extend([("serve", k), ("close",)])
        return found

    def test_all_days(self):
        for case, _ in known_cases(177, 60, 200) + known_cases(178, 60, MOST):
            n, r, k, life = case
            live = LiveBakery(life)
            for day in range(70):
                baked, sold, missed, thrown = known_sums(*case, day)
                self.assertEqual(live.balance, (sold, missed, thrown))
                self.assertEqual((live.today, live.loaves), (day, baked - sold - thrown))
                if day % r == 0:
                    self.assertEqual(live.bake(n), n)
                _, _, sold, _, thrown = day_row(*case, day)
                self.assertEqual([live.serve(k), live.close()], [sold, thrown])
            self.assertEqual(live.history, self.list_operations(n, r, k, 70))

    def test_replayed(self):
        for case, _ in known_cases(179, 60, MOST):
            n, r, k, life = case
            live = LiveBakery.replay(life, *self.list_operations(n, r, k, 3 * r))
            sums = known_sums(*case, 3 * r)
            self.assertEqual((live.today, live.balance), (3 * r, sums[1:]))
            with Attempt(live):
                for _ in range(3 * r * 2 + 3):
                    self.assertIs(live.undo(), True)
                self.assertIs(live.undo(), False)
                self.assertEqual((live.today, live.balance), (0, (0, 0, 0)))
            self.assertEqual((live.today, live.balance), (3 * r, sums[1:]))

    def test_shelf(self):
        live = LiveBakery.replay(24, *self.list_operations(60, 24, 2, 20))
        self.assertEqual((list(live.by_age()), live.loaves), ([(0, 20)], 20))
        live = LiveBakery.replay(30, *self.list_operations(60, 24, 2, 27))
        self.assertEqual((list(live.by_age()), live.loaves), ([(0, 6), (24, 60)], 66))


class ReportsTest(unittest.TestCase):
    def test_all_days(self):
        for case, _ in known_cases(180, 60, 200) + known_cases(181, 60, MOST):
            bakery = make_bakery(*case)
            for first, last in ((0, 60), (999, 1003), (10 ** 12, 10 ** 12 + 30), (LAST - 30, LAST)):
                rows = [day_row(*case, day) for day in range(first, last + 1)]
                self.assertEqual(parse_report(report(bakery, first, last)), rows)

    def test_text(self):
        self.assertEqual(report(make_bakery(2500, 3, 1200, 2), 998, 1001), "\n".join([
            "                       day         baked          sold        missed        thrown",
            "                       998             0             0         1,200             0",
            "                       999         2,500         1,200             0             0",
            "                     1,000             0         1,200             0           100",
            "                     1,001             0             0         1,200             0"]))


if __name__ == "__main__":
    unittest.main()
