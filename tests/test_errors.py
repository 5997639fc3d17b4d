import unittest

from staleloaves.errors import (Contradiction, InvalidBakery, InvalidDays, InvalidNumber, InvalidOperation,
                                InvalidPrices, InvalidReport, InvalidRule, LoafError)

ALL = (InvalidBakery, InvalidNumber, InvalidDays, Contradiction, InvalidRule, InvalidPrices, InvalidOperation,
       InvalidReport)


class ErrorsTest(unittest.TestCase):
    def test_all_are_loaf_errors(self):
        for error in ALL:
            self.assertTrue(issubclass(error, LoafError), error)
        self.assertTrue(issubclass(LoafError, ValueError))

    def test_none_is_a_kind_of_another(self):
        for one in ALL:
            self.assertEqual([other for other in ALL if issubclass(one, other)], [one])

    def test_attributes_are_set_when_created(self):
        error = InvalidBakery("demands", 3)
        self.assertEqual((error.part, error.index), ("demands", 3))
        self.assertEqual(InvalidDays(7).index, 7)
        self.assertEqual(InvalidRule("goal").part, "goal")
        self.assertEqual(InvalidPrices("waste").part, "waste")
        self.assertEqual(InvalidOperation(4).index, 4)
        self.assertEqual(InvalidReport(5).row, 5)

    def test_errors_have_messages(self):
        for error in (InvalidBakery("life", -1), InvalidDays(2), InvalidNumber("n"), Contradiction("c"),
                      InvalidRule("more"), InvalidPrices("sale"), InvalidOperation(0), InvalidReport(1)):
            self.assertTrue(str(error))


if __name__ == "__main__":
    unittest.main()
