"""Points 14 and 15: live bakeries, step by step and replayed."""

import random
import unittest

from staleloaves.bakeries import Bakery
from staleloaves.errors import InvalidBakery, InvalidNumber, InvalidOperation
from staleloaves.live import Attempt, LiveBakery
from tests.live_model import LiveModel, model_state, operate, random_operation, state
from tests.simulation import random_parts

MOST = 10 ** 9
WRONG_NUMBERS = (-1, MOST + 1, -10 ** 20, 10 ** 20)


class InterfaceTest(unittest.TestCase):
    def test_examples(self):
        live = LiveBakery(2)
        self.assertEqual(
            [live.bake(5), live.serve(2), live.close(), live.serve(2), list(live.by_age()), live.close(), live.balance],
            [5, 2, 0, 2, [(0, 1)], 1, (4, 0, 1)])
        self.assertEqual(LiveBakery.replay(2, ("bake", 5), ("close",), ("undo",)).history, [("bake", 5)])

    def test_members_are_defined_in_the_class_itself(self):
        for name in ("today", "loaves", "balance", "history"):
            self.assertIsInstance(vars(LiveBakery)[name], property)
        for name in ("__init__", "bake", "serve", "close", "undo", "by_age"):
            self.assertIn(name, vars(LiveBakery))
        self.assertIsInstance(vars(LiveBakery)["replay"], classmethod)

    def test_names_of_arguments(self):
        live = LiveBakery(life=2)
        self.assertEqual([live.bake(loaves=5), live.serve(customers=2)], [5, 2])
        self.assertEqual(LiveBakery.replay(2, *live.history).history, live.history)

    def test_beginning(self):
        for life in (1, 2, 29, 30):
            live = LiveBakery(life)
            self.assertEqual(state(live), ((0, 0, (0, 0, 0), []), []))
            self.assertIs(live.undo(), False)
            self.assertEqual(state(live), ((0, 0, (0, 0, 0), []), []))

    def test_life_out_of_range(self):
        for life in (0, -1, 31, 10 ** 9, -10 ** 20):
            for make in (lambda: LiveBakery(life), lambda: LiveBakery.replay(life),
                         lambda: LiveBakery.replay(life, ("shut",)), lambda: LiveBakery.replay(life, ("bake", -1))):
                with self.subTest(life=life), self.assertRaises(InvalidBakery) as caught:
                    make()
                self.assertEqual((caught.exception.part, caught.exception.index), ("life", -1))

    def test_two_live_bakeries_are_apart(self):
        one, other = LiveBakery(3), LiveBakery(3)
        one.bake(5)
        other.serve(2)
        self.assertEqual([one.history, other.history], [[("bake", 5)], [("serve", 2)]])
        self.assertEqual([one.loaves, one.balance], [5, (0, 0, 0)])
        self.assertEqual([other.loaves, other.balance], [0, (0, 2, 0)])


class OperationsTest(unittest.TestCase):
    def test_wrong_numbers_change_nothing(self):
        for begun in ((), (("bake", 5),), (("bake", 5), ("close",), ("serve", 2))):
            live = LiveBakery.replay(3, *begun)
            before = state(live)
            for wrong in WRONG_NUMBERS:
                for call in (live.bake, live.serve):
                    with self.subTest(wrong=wrong), self.assertRaises(InvalidNumber):
                        call(wrong)
                    self.assertEqual(state(live), before)
            self.assertIs(live.undo(), len(begun) > 0)
            self.assertEqual(live.history, list(begun[:-1]))

    def test_amounts_at_their_limits(self):
        live = LiveBakery(2)
        self.assertEqual([live.bake(0), live.serve(0), live.bake(MOST), live.bake(MOST)], [0, 0, MOST, 2 * MOST])
        self.assertEqual(list(live.by_age()), [(0, 2 * MOST)])
        self.assertEqual([live.serve(MOST), live.close(), live.bake(MOST)], [MOST, 0, 2 * MOST])
        self.assertEqual(list(live.by_age()), [(0, MOST), (1, MOST)])
        self.assertEqual([live.close(), live.serve(MOST), live.serve(MOST), live.balance],
                         [MOST, MOST, 0, (2 * MOST, MOST, MOST)])

    def test_nothing_is_an_operation_too(self):
        live = LiveBakery(1)
        self.assertEqual([live.bake(0), live.serve(0), live.close()], [0, 0, 0])
        self.assertEqual(live.history, [("bake", 0), ("serve", 0), ("close",)])
        self.assertEqual((live.today, live.balance), (1, (0, 0, 0)))
        self.assertEqual([live.undo() for _ in range(4)], [True, True, True, False])

    def test_several_times_a_day(self):
        live = LiveBakery(3)
        self.assertEqual([live.bake(2), live.bake(3), live.serve(1), live.bake(4), live.serve(10)], [2, 5, 1, 8, 8])
        self.assertEqual((live.balance, live.loaves, list(live.by_age())), ((9, 2, 0), 0, []))
        self.assertEqual([live.bake(1), live.bake(1), list(live.by_age())], [1, 2, [(0, 2)]])

    def test_the_oldest_loaves_are_sold_first(self):
        live = LiveBakery.replay(5, ("bake", 3), ("close",), ("bake", 4), ("close",), ("bake", 5))
        self.assertEqual(list(live.by_age()), [(0, 3), (1, 4), (2, 5)])
        self.assertEqual([live.serve(2), list(live.by_age())], [2, [(0, 1), (1, 4), (2, 5)]])
        self.assertEqual([live.serve(1), list(live.by_age())], [1, [(1, 4), (2, 5)]])
        self.assertEqual([live.serve(6), list(live.by_age())], [6, [(2, 3)]])
        self.assertEqual([live.serve(4), list(live.by_age()), live.balance], [3, [], (12, 1, 0)])

    def test_loaves_last_for_their_life(self):
        for life in range(1, 31):
            live = LiveBakery(life)
            live.close()
            live.bake(7)
            for day in range(1, life):
                self.assertEqual((live.today, live.loaves, list(live.by_age())), (day, 7, [(1, 7)]))
                self.assertEqual(live.close(), 0)
            self.assertEqual([live.today, live.close(), live.loaves, live.today], [life, 7, 0, life + 1])
            self.assertEqual((live.balance, list(live.by_age())), ((0, 0, 7), []))

    def test_days_without_loaves_are_left_out(self):
        live = LiveBakery.replay(4, ("bake", 2), ("close",), ("close",), ("bake", 1))
        self.assertEqual(list(live.by_age()), [(0, 2), (2, 1)])

    def test_bakeries(self):
        for bakes, demands, life in random_parts(151, 60, 8, 9, 30) + random_parts(152, 20, 24, MOST, 30):
            bakery = Bakery(bakes, demands, life)
            live = LiveBakery(life)
            for day in range(3 * len(bakes) + life):
                self.assertEqual((live.today, live.loaves, list(live.by_age())),
                                 (day, bakery.stock(day), bakery.shelf(day)))
                self.assertEqual(live.balance, bakery.totals(day))
                at = day % len(bakes)
                self.assertEqual(live.bake(bakes[at]), bakery.stock(day) + bakes[at])
                self.assertEqual(live.serve(demands[at]), bakery.sold(day))
                self.assertEqual(live.close(), bakery.thrown(day))


class UndoTest(unittest.TestCase):
    def test_each_kind(self):
        operations = [("bake", 5), ("bake", 3), ("serve", 4), ("close",), ("serve", 9), ("bake", 2), ("close",),
                      ("close",), ("close",), ("serve", 1)]
        for life in (1, 2, 3, 30):
            live = LiveBakery(life)
            states = [state(live)]
            for operation in operations:
                operate(live, operation)
                states.append(state(live))
            for before in states[-2::-1]:
                self.assertIs(live.undo(), True)
                self.assertEqual(state(live), before)
            self.assertIs(live.undo(), False)
            self.assertIs(live.undo(), False)
            self.assertEqual(state(live), states[0])

    def test_what_follows_an_undo(self):
        live = LiveBakery.replay(2, ("bake", 5), ("serve", 2))
        self.assertIs(live.undo(), True)
        self.assertEqual([live.serve(4), live.close(), live.close(), live.balance], [4, 0, 1, (4, 0, 1)])
        self.assertEqual(live.history, [("bake", 5), ("serve", 4), ("close",), ("close",)])

    def test_thrown_loaves_come_back(self):
        live = LiveBakery.replay(1, ("bake", 5), ("serve", 2), ("close",))
        self.assertEqual((live.loaves, live.balance), (0, (2, 0, 3)))
        self.assertIs(live.undo(), True)
        self.assertEqual((live.today, live.loaves, live.balance), (0, 3, (2, 0, 0)))
        self.assertEqual([live.serve(2), live.close()], [2, 1])

    def test_many_operations(self):
        live = LiveBakery(30)
        for _ in range(20000):
            live.bake(1)
            live.close()
        self.assertEqual((live.today, live.loaves, live.balance), (20000, 29, (0, 0, 20000 - 29)))
        self.assertEqual(len(live.history), 40000)
        self.assertEqual([live.undo() for _ in range(40001)], [True] * 40000 + [False])
        self.assertEqual(state(live), state(LiveBakery(30)))

    def test_many_operations_are_forgotten_at_once(self):
        live = LiveBakery(30)
        with Attempt(live):
            for _ in range(100000):
                live.serve(1)
            self.assertEqual(live.balance, (0, 100000, 0))
        self.assertEqual(state(live), state(LiveBakery(30)))


class ModelTest(unittest.TestCase):
    def test_random_operations(self):
        source = random.Random(153)
        for _ in range(250):
            life = source.choice((1, 2, 3, 4, 7, 30))
            most = source.choice((1, 4, 12))
            live, model = LiveBakery(life), LiveModel(life)
            for _ in range(source.randint(1, 60)):
                operation = random_operation(source, most)
                self.assertEqual(operate(live, operation), model.operate(operation))
                self.assertEqual(state(live), model_state(model))


class CallerTest(unittest.TestCase):
    def test_returned_lists_may_be_modified(self):
        live = LiveBakery.replay(2, ("bake", 5), ("serve", 2))
        for modify in (lambda rows: rows.clear(), lambda rows: rows.append(("close",)), lambda rows: rows.reverse()):
            modify(live.history)
            self.assertEqual(live.history, [("bake", 5), ("serve", 2)])
        self.assertIs(live.undo(), True)
        self.assertEqual(live.history, [("bake", 5)])

    def test_kept_results_stay(self):
        live = LiveBakery.replay(2, ("bake", 5), ("serve", 2))
        history, balance = live.history, live.balance
        live.close()
        live.bake(3)
        self.assertEqual((history, balance), ([("bake", 5), ("serve", 2)], (2, 0, 0)))

    def test_reading_again(self):
        live = LiveBakery.replay(3, ("bake", 5), ("close",), ("bake", 1), ("serve", 2))
        self.assertEqual(state(live), state(live))
        self.assertIs(type(live.history), list)
        self.assertEqual({type(row) for row in live.history}, {tuple})
        self.assertIs(type(live.balance), tuple)

    def test_by_age_is_a_generator(self):
        live = LiveBakery.replay(3, ("bake", 5), ("close",), ("bake", 1))
        rows = live.by_age()
        self.assertIs(iter(rows), rows)
        self.assertEqual([next(rows), next(rows), next(rows, None)], [(0, 5), (1, 1), None])

    def test_by_age_while_the_shelf_changes(self):
        live = LiveBakery.replay(3, ("bake", 5), ("close",), ("bake", 1))
        found = []
        for day, count in live.by_age():
            found.append((day, count))
            live.serve(count)
        self.assertEqual((found, live.loaves), ([(0, 5), (1, 1)], 0))


class ReplayTest(unittest.TestCase):
    def assert_no_operation(self, index, *operations):
        with self.subTest(operations=operations), self.assertRaises(InvalidOperation) as caught:
            LiveBakery.replay(2, *operations)
        self.assertEqual(caught.exception.index, index)

    def test_example(self):
        self.assert_no_operation(1, ("bake", 5), ("close", 1))

    def test_no_operations(self):
        self.assertEqual(state(LiveBakery.replay(4)), state(LiveBakery(4)))

    def test_each_kind_of_tuple_that_is_no_operation(self):
        wrong = [(), ("bake",), ("serve",), ("bake", 1, 2), ("serve", 1, 2), ("bake", 1, "close"), ("close", 1),
                 ("close", "close"), ("undo", 1), ("undo", "bake", 1), ("bake", "5"), ("serve", "5"), ("bake", None),
                 ("serve", (5,)), ("bake", True), ("serve", False), ("shut",), ("shut", 5), ("Bake", 5), ("bakes", 5),
                 ("",), ("", 5), ("by_age",), ("replay", 2), ("history",), (5,), (5, "bake"), (5, 5), (None,),
                 (("bake", 5),), (("close",),), ("close", ()), ("bake", 5, ())]
        for operation in wrong:
            self.assert_no_operation(0, operation)
            self.assert_no_operation(3, ("bake", 5), ("undo",), ("close",), operation)
            self.assert_no_operation(1, ("serve", 5), operation, ("bake", -1), ("shut",))

    def test_errors_come_in_order(self):
        for wrong in WRONG_NUMBERS:
            for word in ("bake", "serve"):
                with self.subTest(word=word, wrong=wrong), self.assertRaises(InvalidNumber):
                    LiveBakery.replay(2, (word, wrong))
                with self.subTest(word=word, wrong=wrong), self.assertRaises(InvalidNumber):
                    LiveBakery.replay(2, ("bake", 5), ("undo",), (word, wrong), ("shut",))
                self.assert_no_operation(1, ("close",), ("shut",), (word, wrong))

    def test_undo(self):
        self.assertEqual(state(LiveBakery.replay(2, ("undo",), ("undo",))), state(LiveBakery(2)))
        live = LiveBakery.replay(2, ("undo",), ("bake", 5), ("serve", 1), ("undo",), ("close",), ("undo",), ("undo",),
                                 ("undo",), ("undo",), ("serve", 3))
        self.assertEqual(state(live), ((0, 0, (0, 3, 0), []), [("serve", 3)]))
        self.assertEqual([live.undo(), live.undo()], [True, False])

    def test_random_operations(self):
        source = random.Random(154)
        for _ in range(200):
            life = source.choice((1, 2, 3, 30))
            operations = [random_operation(source, 9) for _ in range(source.randint(0, 40))]
            live, model = LiveBakery(life), LiveModel(life)
            for operation in operations:
                operate(live, operation)
                model.operate(operation)
            replayed = LiveBakery.replay(life, *operations)
            self.assertIsInstance(replayed, LiveBakery)
            again = LiveBakery.replay(life, *live.history)
            for one in (live, replayed, again):
                self.assertEqual(state(one), model_state(model))
            # They are equal in what can be reverted, too.
            while model.operations:
                model.operate(("undo",))
                for one in (live, replayed, again):
                    self.assertIs(one.undo(), True)
                    self.assertEqual(state(one), model_state(model))
            self.assertEqual([one.undo() for one in (live, replayed, again)], [False] * 3)

    def test_a_subclass(self):
        class Corner(LiveBakery):
            pass

        self.assertIs(type(Corner.replay(2, ("bake", 5))), Corner)


if __name__ == "__main__":
    unittest.main()
