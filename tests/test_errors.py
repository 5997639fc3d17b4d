import unittest

from staleloaves.errors import Contradiction, InvalidBakery, InvalidDays, InvalidNumber, InvalidRule, LoafError

ALL = (InvalidBakery, InvalidNumber, InvalidDays, Contradiction, InvalidRule)


class ErrorsTest(unittest.TestCase):
    def test_all_are_loaf_errors(self):
        for error in ALL:
            self.assertTrue(issubclass(error, LoafError), error)
        self.assertTrue(issubclass(LoafError, ValueError))

    def test_none_is_a_kind_of_another(self):
        for one in ALL:
            self.assertEqual([other for other in ALL if issubclass(one, other)], [one])

    def test_attributes_are_set_when_created(self):
        error = InvalidBakery("demands", 3)
        self.assertEqual((error.part, error.index), ("demands", 3))
        self.assertEqual(InvalidDays(7).index, 7)
        self.assertEqual(InvalidRule("goal").part, "goal")

    def test_errors_have_messages(self):
        for error in (InvalidBakery("life", -1), InvalidDays(2), InvalidNumber("n"), Contradiction("c"),
                      InvalidRule("more")):
            self.assertTrue(str(error))


if __name__ == "__main__":
    unittest.main()
