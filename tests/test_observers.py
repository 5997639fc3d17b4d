"""Point 9: what the shelf life can be if some days were seen."""

import random
import unittest

from staleloaves.bakeries import Bakery
from staleloaves.errors import Contradiction, InvalidBakery, InvalidNumber
from staleloaves.observers import LifeObserver
from tests.simulation import LATE_PARTS, Simulation, random_parts

MOST = 10 ** 9
LAST = 10 ** 18
ALL_LIVES = tuple(range(1, 31))


class PlainLives:
    """Finds the possible lives by playing every loaf in 30 bakeries, one for each life."""

    def __init__(self, bakes, demands):
        self.plays = {life: Simulation(bakes, demands, life) for life in ALL_LIVES}
        self.lives = ALL_LIVES

    def number(self, kind, life, day):
        play = self.plays[life]
        if kind == "stock":
            return play.stock(day)
        return play.sales_on(day)[0 if kind == "sold" else 2]

    def fitting(self, kind, day, number):
        return tuple(life for life in self.lives if self.number(kind, life, day) == number)

    def telling_day(self):
        """Plays all of the 2,000 days, also those on which nothing can differ any more."""
        for day in range(2001):
            if len({self.number("sold", life, day) for life in self.lives}) > 1:
                return day
        return None


def calls_of(observer):
    return {"sold": observer.see_sold, "thrown": observer.see_thrown, "stock": observer.see_stock}


class ExamplesTest(unittest.TestCase):
    def test_sold(self):
        observer = LifeObserver((4, 0), (2, 2))
        found = [observer.see_sold(1, 0), observer.possible_lives, observer.records]
        self.assertEqual(found, [1, (1,), [("sold", 1, 0)]])

    def test_contradiction(self):
        observer = LifeObserver((4, 0), (2, 2))
        with self.assertRaises(Contradiction):
            observer.see_stock(1, 3)

    def test_telling_day(self):
        self.assertEqual(LifeObserver((4, 0), (2, 2)).telling_day(), 1)

    def test_members_are_defined_in_the_class_itself(self):
        for name in "__init__ possible_lives records see_sold see_thrown see_stock telling_day".split():
            self.assertIn(name, vars(LifeObserver))


class FaultsTest(unittest.TestCase):
    def test_bakery_errors(self):
        good = (5,) * 4
        cases = [((), ()), ((), (1,)), ((1,), ()), ((1, 2), (1,)), ((1,), (1, 2)), ((1,) * 25, (1,) * 25),
                 ((1,) * 24, (1,) * 25), ((1,) * 25, (-1,)), ((-1,), (-1,)), ((1,), (1, -1))]
        for at in range(4):
            for wrong in (-1, MOST + 1):
                bad = good[:at] + (wrong,) + good[at + 1:]
                cases += [(bad, good), (good, bad)]
        for bakes, demands in cases:
            with self.subTest(bakes=bakes, demands=demands):
                with self.assertRaises(InvalidBakery) as caught:
                    LifeObserver(bakes, demands)
                with self.assertRaises(InvalidBakery) as expected:
                    Bakery(bakes, demands, 1)
                self.assertEqual((caught.exception.part, caught.exception.index),
                                 (expected.exception.part, expected.exception.index))

    def test_each_part(self):
        for bakes, demands, part, index in (((), (), "bakes", -1), ((0, MOST + 1), (0, 0), "bakes", 1),
                                            ((0,) * 25, (0,) * 25, "bakes", 24), ((0,), (0, 0), "demands", -1),
                                            ((0,) * 3, (0, 0, -1), "demands", 2), ((0,), (0,) * 25, "demands", 24)):
            with self.assertRaises(InvalidBakery) as caught:
                LifeObserver(bakes, demands)
            self.assertEqual((caught.exception.part, caught.exception.index), (part, index))

    def test_limits_of_bakes(self):
        for amount in (0, MOST):
            for length in (1, 24):
                observer = LifeObserver((amount,) * length, (MOST - amount,) * length)
                self.assertEqual((observer.possible_lives, observer.records), (ALL_LIVES, []))

    def test_days_beyond_their_limits(self):
        observer = LifeObserver((4, 0), (2, 2))
        observer.see_thrown(3, 0)
        before = (observer.possible_lives, observer.records, observer.telling_day())
        for see in calls_of(observer).values():
            for wrong in (-1, LAST + 1, -LAST, 10 ** 30):
                for number in (0, 2, -1, 10 ** 40):
                    with self.subTest(see=see, wrong=wrong), self.assertRaises(InvalidNumber):
                        see(wrong, number)
                    self.assertEqual((observer.possible_lives, observer.records, observer.telling_day()), before)

    def test_first_and_last_day(self):
        observer = LifeObserver((4, 0), (2, 2))
        # With the life 1, the two loaves that are left on day 0 are thrown away.
        self.assertEqual([observer.see_sold(0, 2), observer.see_stock(0, 0), observer.see_thrown(0, 0)], [30, 30, 29])
        self.assertEqual([observer.see_sold(LAST, 2), observer.see_stock(LAST, 0), observer.see_thrown(LAST, 0)],
                         [29, 29, 29])
        self.assertEqual(observer.possible_lives, ALL_LIVES[1:])
        self.assertEqual([record[1] for record in observer.records], [0, 0, 0, LAST, LAST, LAST])

    def test_contradictions_change_nothing(self):
        for bakes, demands, life in random_parts(71, 30, 5, 6, 12):
            observer = LifeObserver(bakes, demands)
            bakery = Bakery(bakes, demands, life)
            observer.see_stock(9, bakery.stock(9))
            before = (observer.possible_lives, observer.records, observer.telling_day())
            for day in (0, 3, 9, 500, LAST):
                numbers = {"sold": bakery.sold(day), "thrown": bakery.thrown(day), "stock": bakery.stock(day)}
                for kind, see in calls_of(observer).items():
                    for wrong in (-1, 10 ** 20, -10 ** 20, 10 ** 12 + numbers[kind]):
                        with self.subTest(kind=kind, day=day), self.assertRaises(Contradiction):
                            see(day, wrong)
                        self.assertEqual((observer.possible_lives, observer.records, observer.telling_day()), before)

    def test_contradiction_to_what_was_seen_before(self):
        observer = LifeObserver((4, 0), (2, 2))
        self.assertEqual(observer.see_thrown(0, 2), 1)
        for see, day, number in ((observer.see_thrown, 0, 0), (observer.see_sold, 1, 2), (observer.see_stock, 1, 2)):
            with self.assertRaises(Contradiction):
                see(day, number)
        self.assertEqual((observer.possible_lives, observer.records), ((1,), [("thrown", 0, 2)]))
        self.assertEqual(observer.see_stock(1, 0), 1)
        self.assertEqual(observer.records, [("thrown", 0, 2), ("stock", 1, 0)])


class PossibleLivesTest(unittest.TestCase):
    def test_each_kind_of_observation(self):
        # 30 loaves a round, of which each life sells one more.
        bakes, demands = (30,) + (0,) * 23, (1,) * 24
        observer = LifeObserver(bakes, demands)
        self.assertEqual([observer.see_sold(4, 1), observer.possible_lives], [26, ALL_LIVES[4:]])
        self.assertEqual([observer.see_thrown(7, 0), observer.possible_lives],
                         [25, tuple(life for life in ALL_LIVES[4:] if life != 8)])
        self.assertEqual([observer.see_stock(20, 0), observer.possible_lives],
                         [15, tuple(life for life in range(5, 21) if life != 8)])
        self.assertEqual([observer.see_thrown(10, 19), observer.possible_lives], [1, (11,)])
        self.assertEqual(observer.records,
                         [("sold", 4, 1), ("thrown", 7, 0), ("stock", 20, 0), ("thrown", 10, 19)])

    def test_each_life_can_be_the_only_one(self):
        for life in ALL_LIVES:
            observer = LifeObserver((MOST,), (0,))
            self.assertEqual(observer.see_stock(LAST, MOST * (life - 1)), 1)
            self.assertEqual(observer.possible_lives, (life,))

    def test_observations_may_be_repeated(self):
        observer = LifeObserver((4, 0), (2, 2))
        self.assertEqual([observer.see_sold(1, 2), observer.see_sold(1, 2)], [29, 29])
        self.assertEqual(observer.records, [("sold", 1, 2), ("sold", 1, 2)])

    def test_plain_simulation(self):
        source = random.Random(72)
        for bakes, demands, life in random_parts(73, 25, 4, 7, 30) + random_parts(74, 5, 24, 7, 30) + LATE_PARTS[:5]:
            observer = LifeObserver(bakes, demands)
            plain = PlainLives(bakes, demands)
            accepted = []
            for _ in range(25):
                kind = source.choice(("sold", "thrown", "stock"))
                day = source.choice((0, source.randrange(9), source.randrange(100), source.randrange(LAST), LAST))
                number = plain.number(kind, life if source.random() < 0.8 else source.choice(ALL_LIVES), day)
                fitting = plain.fitting(kind, day, number)
                with self.subTest(bakes=bakes, demands=demands, kind=kind, day=day, number=number):
                    if fitting:
                        plain.lives = fitting
                        accepted.append((kind, day, number))
                        self.assertEqual(calls_of(observer)[kind](day, number), len(fitting))
                    else:
                        with self.assertRaises(Contradiction):
                            calls_of(observer)[kind](day, number)
                    self.assertEqual(observer.possible_lives, plain.lives)
                    self.assertEqual(observer.records, accepted)


class TellingDayTest(unittest.TestCase):
    def test_plain_simulation(self):
        source = random.Random(75)
        for bakes, demands, life in random_parts(76, 40, 5, 7, 30) + random_parts(77, 8, 24, 7, 30) + LATE_PARTS[:5]:
            observer = LifeObserver(bakes, demands)
            plain = PlainLives(bakes, demands)
            for _ in range(6):
                with self.subTest(bakes=bakes, demands=demands, lives=plain.lives):
                    self.assertEqual(observer.telling_day(), plain.telling_day())
                kind = source.choice(("sold", "thrown", "stock"))
                day = source.randrange(40)
                number = plain.number(kind, life, day)
                plain.lives = plain.fitting(kind, day, number)
                calls_of(observer)[kind](day, number)

    def test_none_up_to_two_thousand(self):
        # There are always loaves enough, though the lives differ in the stock, some of them very late.
        for bakes, demands in (((5,), (4,)), ((MOST,), (MOST - 1,)), ((3,) * 24, (3,) * 23 + (2,)), ((0,), (7,))):
            observer = LifeObserver(bakes, demands)
            self.assertIsNone(observer.telling_day())
            for day in (0, 47, 48, 1999, 2000):
                self.assertEqual(len({Bakery(bakes, demands, life).sold(day) for life in ALL_LIVES}), 1)

    def test_none_for_a_single_life(self):
        observer = LifeObserver((4, 0), (2, 2))
        observer.see_sold(1, 0)
        self.assertIsNone(observer.telling_day())

    def test_first_day(self):
        # On day 0 each life sells the same, so day 1 is the first that can tell.
        for bakes, demands in (((9, 0), (1, 1)), ((3, 0, 0), (0, 1, 0))):
            self.assertEqual(LifeObserver(bakes, demands).telling_day(), 1)

    def test_late_in_the_second_round(self):
        observer = LifeObserver((0,) * 23 + (60,), (2,) * 24)
        self.assertEqual(observer.telling_day(), 24)
        self.assertEqual(observer.see_sold(45, 2), 8)
        self.assertEqual((observer.possible_lives, observer.telling_day()), (ALL_LIVES[22:], 46))
        self.assertEqual(observer.see_sold(46, 2), 7)
        self.assertEqual((observer.possible_lives, observer.telling_day()), (ALL_LIVES[23:], None))

    def test_sales_that_are_the_same_on_two_thousand_days(self):
        # Days beyond the second round never tell more: the sales repeat from that round on.
        for parts in random_parts(78, 30, 24, MOST, 30) + LATE_PARTS:
            bakery = Bakery(*parts)
            length = len(parts[0])
            for day in range(2 * length, 2001, 7):
                self.assertEqual(bakery.sold(day), bakery.sold(length + day % length))


class RepeatedCallsTest(unittest.TestCase):
    def test_equal_results(self):
        observer = LifeObserver((4, 0), (2, 2))
        observer.see_sold(1, 2)
        first = (observer.possible_lives, observer.records, observer.telling_day())
        for _ in range(3):
            self.assertEqual((observer.possible_lives, observer.records, observer.telling_day()), first)

    def test_records_are_the_callers_own(self):
        observer = LifeObserver((4, 0), (2, 2))
        observer.see_sold(1, 2)
        records = observer.records
        self.assertIs(type(records), list)
        self.assertIs(type(observer.possible_lives), tuple)
        records.append(("stock", 0, 0))
        records[0] = None
        self.assertEqual(observer.records, [("sold", 1, 2)])
        observer.see_stock(0, 0)
        self.assertEqual(len(records), 2)

    def test_observers_are_independent(self):
        one, other = LifeObserver((4, 0), (2, 2)), LifeObserver((4, 0), (2, 2))
        one.see_sold(1, 0)
        self.assertEqual((other.possible_lives, other.records, other.telling_day()), (ALL_LIVES, [], 1))


if __name__ == "__main__":
    unittest.main()
