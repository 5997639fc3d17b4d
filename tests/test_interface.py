"""The interface: each name is defined in the file under which the document lists it, with the listed arguments."""

import importlib
import inspect
import unittest

FUNCTIONS = {
    "losses": {"next_missed": "bakery, day", "next_thrown": "bakery, day", "least_life": "bakery, missed",
               "least_baking": "bakery, missed"},
    "evidence": {"judge_days": "bakery, days, chosen", "find_days": "bakery, days", "newest_first": "bakery, days"},
    "rules": {"run": "rule, demands, life, days", "outcome": "rule, demands, life, days"},
    "prices": {"profit": "bakery, prices, days", "round_profit": "bakery, prices", "best_more": "bakery, prices",
               "first_profit": "bakery, prices, goal"},
    "reports": {"report": "bakery, first, last", "parse_report": "text"},
}

CLASSES = {
    "bakeries": {"Bakery": "bakes, demands, life"},
    "observers": {"LifeObserver": "bakes, demands"},
    "rules": {"Rule": "amount", "RefillRule": "goal", "SoldRule": "amount, *, more=0"},
    "prices": {"Prices": "sale, cost, waste"},
    "live": {"LiveBakery": "life", "Attempt": "live"},
    "errors": {"LoafError": None, "InvalidBakery": None, "InvalidNumber": None, "InvalidDays": None,
               "Contradiction": None, "InvalidRule": None, "InvalidPrices": None, "InvalidOperation": None,
               "InvalidReport": None},
}

METHODS = {
    "bakeries.Bakery": {"with_life": "self, life", "baking_more": "self, count", "stock": "self, day",
                        "sold": "self, day", "missed": "self, day", "thrown": "self, day", "totals": "self, days",
                        "shelf": "self, day"},
    "observers.LifeObserver": {"see_sold": "self, day, number", "see_thrown": "self, day, number",
                               "see_stock": "self, day, number", "telling_day": "self"},
    "live.LiveBakery": {"bake": "self, loaves", "serve": "self, customers", "close": "self", "undo": "self",
                        "by_age": "self"},
}

PROPERTIES = {
    "bakeries.Bakery": ("bakes", "demands", "life", "settled_day", "long_run"),
    "observers.LifeObserver": ("possible_lives", "records"),
    "prices.Prices": ("cents",),
    "live.LiveBakery": ("today", "loaves", "balance", "history"),
}


def find(place):
    """Returns what a place like "live" or "live.LiveBakery" stands for."""
    file, *names = place.split(".")
    found = importlib.import_module("staleloaves." + file)
    for name in names:
        found = getattr(found, name)
    return found


class InterfaceTest(unittest.TestCase):
    def assert_arguments(self, thing, arguments):
        self.assertEqual(str(inspect.signature(thing)), f"({arguments})")

    def test_functions(self):
        for file, functions in FUNCTIONS.items():
            for name, arguments in functions.items():
                function = vars(find(file))[name]
                self.assertTrue(inspect.isfunction(function), name)
                self.assertEqual(function.__module__, "staleloaves." + file)
                self.assert_arguments(function, arguments)

    def test_classes(self):
        for file, classes in CLASSES.items():
            for name, arguments in classes.items():
                made = vars(find(file))[name]
                self.assertTrue(inspect.isclass(made), name)
                self.assertEqual(made.__module__, "staleloaves." + file)
                if arguments is not None:
                    self.assert_arguments(made, arguments)

    def test_methods(self):
        for place, methods in METHODS.items():
            for name, arguments in methods.items():
                self.assert_arguments(vars(find(place))[name], arguments)

    def test_properties(self):
        for place, names in PROPERTIES.items():
            for name in names:
                self.assertIsInstance(vars(find(place))[name], property)

    def test_generators(self):
        self.assertTrue(inspect.isgeneratorfunction(find("rules.run")))
        self.assertTrue(inspect.isgeneratorfunction(find("live.LiveBakery.by_age")))

    def test_replay(self):
        self.assertIsInstance(vars(find("live.LiveBakery"))["replay"], classmethod)
        self.assert_arguments(find("live.LiveBakery.replay"), "life, *operations")

    def test_class_values(self):
        self.assertEqual([find("bakeries.Bakery.MAX_DAYS"), find("bakeries.Bakery.MAX_LIFE")], [24, 30])
        kinds = [find(f"rules.{name}.KIND") for name in ("Rule", "RefillRule", "SoldRule")]
        self.assertEqual(kinds, ["fixed", "refill", "sold"])


if __name__ == "__main__":
    unittest.main()
