"""Point 12: prices, calls of them, their sums and products."""

import random
import unittest

from staleloaves.errors import InvalidPrices
from staleloaves.prices import Prices

MOST = 10 ** 6
PARTS = ("sale", "cost", "waste")


class PricesTest(unittest.TestCase):
    def assert_fault(self, part, make):
        with self.subTest(part=part), self.assertRaises(InvalidPrices) as caught:
            make()
        self.assertEqual(caught.exception.part, part)

    def test_example(self):
        prices = Prices(10, 3, 1) + Prices(0, 1, 0) * 2
        self.assertEqual([prices.cents, prices(5, 4, 1)], [(10, 5, 1), 14])

    def test_names_of_arguments(self):
        prices = Prices(sale=7, cost=5, waste=2)
        self.assertEqual(prices.cents, (7, 5, 2))

    def test_members_are_defined_in_the_class_itself(self):
        for name in ("__init__", "__call__", "__add__", "__mul__", "__eq__", "cents"):
            self.assertIn(name, vars(Prices))
        self.assertIsInstance(vars(Prices)["cents"], property)

    def test_cents_is_a_tuple(self):
        self.assertIs(type(Prices(3, 2, 1).cents), tuple)
        self.assertIs(type((Prices(3, 2, 1) + Prices(3, 2, 1)).cents), tuple)
        self.assertIs(type((Prices(3, 2, 1) * 2).cents), tuple)

    def test_limits_are_allowed(self):
        for sale in (0, 1, MOST - 1, MOST):
            for cost in (0, 1, MOST - 1, MOST):
                for waste in (0, 1, MOST - 1, MOST):
                    self.assertEqual(Prices(sale, cost, waste).cents, (sale, cost, waste))

    def test_each_part(self):
        for wrong in (-1, MOST + 1, -10 ** 18, 10 ** 18):
            for right in (0, 17, MOST):
                self.assert_fault("sale", lambda: Prices(wrong, right, right))
                self.assert_fault("cost", lambda: Prices(right, wrong, right))
                self.assert_fault("waste", lambda: Prices(right, right, wrong))

    def test_the_first_wrong_part_counts(self):
        for one in (-1, MOST + 1):
            for other in (-1, MOST + 1):
                self.assert_fault("sale", lambda: Prices(one, other, 0))
                self.assert_fault("sale", lambda: Prices(one, 0, other))
                self.assert_fault("sale", lambda: Prices(one, other, other))
                self.assert_fault("cost", lambda: Prices(0, one, other))


class CallsTest(unittest.TestCase):
    def test_each_number_counts(self):
        prices = Prices(1000, 10, 1)
        self.assertEqual(prices(0, 0, 0), 0)
        self.assertEqual([prices(1, 0, 0), prices(0, 1, 0), prices(0, 0, 1)], [-10, 1000, -1])
        self.assertEqual(prices(7, 4, 3), 3927)

    def test_random_calls(self):
        source = random.Random(121)
        for _ in range(300):
            sale, cost, waste = [source.choice((0, 1, MOST, source.randint(0, MOST))) for _ in range(3)]
            baked, sold, thrown = [source.choice((0, 1, 10 ** 27, source.randint(0, 10 ** 9))) for _ in range(3)]
            found = Prices(sale, cost, waste)(baked, sold, thrown)
            self.assertEqual(found, sale * sold - cost * baked - waste * thrown)

    def test_calls_again(self):
        prices = Prices(10, 3, 1)
        self.assertEqual([prices(5, 4, 1), prices(5, 4, 1), prices.cents], [24, 24, (10, 3, 1)])


class SignsTest(unittest.TestCase):
    def assert_made(self, expected, make):
        """Asserts that the prices are those of these three numbers, or that the error is theirs."""
        wrong = [part for part, cents in zip(PARTS, expected) if not 0 <= cents <= MOST]
        if not wrong:
            self.assertEqual(make().cents, expected)
            return
        with self.subTest(expected=expected), self.assertRaises(InvalidPrices) as caught:
            make()
        self.assertEqual(caught.exception.part, wrong[0])

    def test_sums(self):
        self.assertEqual((Prices(1, 20, 300) + Prices(4000, 50000, 600000)).cents, (4001, 50020, 600300))
        self.assertEqual((Prices(1, 2, 3) + Prices(0, 0, 0)).cents, (1, 2, 3))

    def test_sums_at_the_limit(self):
        half = Prices(MOST // 2, MOST // 2, MOST // 2)
        self.assertEqual((half + half).cents, (MOST, MOST, MOST))
        for at, part in enumerate(PARTS):
            one = [0, 0, 0]
            one[at] = 1
            with self.assertRaises(InvalidPrices) as caught:
                Prices(MOST, MOST, MOST) + Prices(*one)
            self.assertEqual(caught.exception.part, part)

    def test_products(self):
        self.assertEqual((Prices(1, 20, 300) * 7).cents, (7, 140, 2100))
        self.assertEqual((Prices(1, 20, 300) * 1).cents, (1, 20, 300))
        self.assertEqual((Prices(MOST, 1, 0) * 0).cents, (0, 0, 0))

    def test_products_at_the_limit(self):
        self.assertEqual((Prices(1, 1, 1) * MOST).cents, (MOST, MOST, MOST))
        self.assertEqual((Prices(0, 0, 0) * 10 ** 30).cents, (0, 0, 0))
        self.assertEqual((Prices(0, 0, 0) * -5).cents, (0, 0, 0))
        for times in (-1, MOST + 1, -10 ** 30, 10 ** 30):
            self.assert_made((times, times, times), lambda: Prices(1, 1, 1) * times)
            self.assert_made((0, times, times), lambda: Prices(0, 1, 1) * times)
            self.assert_made((0, 0, times), lambda: Prices(0, 0, 1) * times)

    def test_random_sums_and_products(self):
        source = random.Random(122)
        for _ in range(500):
            one = tuple(source.choice((0, 1, MOST // 2, MOST, source.randint(0, MOST))) for _ in range(3))
            other = tuple(source.choice((0, 1, MOST // 2, MOST, source.randint(0, MOST))) for _ in range(3))
            times = source.choice((-1, 0, 1, 2, 3, MOST, source.randint(-5, 10)))
            sums = tuple(a + b for a, b in zip(one, other))
            self.assert_made(sums, lambda: Prices(*one) + Prices(*other))
            self.assert_made(tuple(times * cents for cents in one), lambda: Prices(*one) * times)

    def test_nothing_is_changed(self):
        one = Prices(10, 3, 1)
        other = Prices(1, 1, MOST)
        for make in (lambda: one + one, lambda: one + other, lambda: one * 3, lambda: one * MOST, lambda: one * -1):
            try:
                made = make()
            except InvalidPrices:
                made = None
            self.assertIsNot(made, one)
            self.assertEqual((one.cents, other.cents), ((10, 3, 1), (1, 1, MOST)))
        kept = one
        one += other * 0
        one *= 2
        self.assertEqual((kept.cents, one.cents), ((10, 3, 1), (20, 6, 2)))

    def test_equality(self):
        self.assertTrue(Prices(10, 3, 1) == Prices(10, 3, 1))
        self.assertFalse(Prices(10, 3, 1) != Prices(10, 3, 1))
        for cents in ((11, 3, 1), (10, 4, 1), (10, 3, 2), (3, 10, 1), (1, 3, 10), (0, 0, 0)):
            self.assertFalse(Prices(10, 3, 1) == Prices(*cents))
            self.assertTrue(Prices(10, 3, 1) != Prices(*cents))
        self.assertTrue(Prices(5, 2, 1) + Prices(5, 2, 1) == Prices(5, 2, 1) * 2)

    def test_nothing_else_is_equal(self):
        for other in ((10, 3, 1), [10, 3, 1], 10, None, "Prices"):
            self.assertFalse(Prices(10, 3, 1) == other)
            self.assertTrue(Prices(10, 3, 1) != other)


if __name__ == "__main__":
    unittest.main()
