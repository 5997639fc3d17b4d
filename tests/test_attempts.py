"""Point 15: attempts leave a live bakery as it was."""

import random
import unittest

from staleloaves.errors import InvalidNumber, InvalidOperation, LoafError
from staleloaves.live import Attempt, LiveBakery
from tests.live_model import LiveModel, model_state, operate, random_operation, state


class Burnt(Exception):
    """An error of the tests' own."""


def make_live():
    return LiveBakery.replay(2, ("bake", 5), ("serve", 2), ("close",), ("bake", 4))


def undo_all(live):
    """Returns the states on the way back to the beginning."""
    states = [state(live)]
    while live.undo():
        states.append(state(live))
    return states


class AttemptTest(unittest.TestCase):
    def assert_like_new(self, live):
        """Asserts that a live bakery is what make_live returns, also in what can be reverted."""
        self.assertEqual(undo_all(live), undo_all(make_live()))

    def test_members_are_defined_in_the_class_itself(self):
        for name in ("__init__", "__enter__", "__exit__"):
            self.assertIn(name, vars(Attempt))

    def test_each_operation(self):
        for operation in (("bake", 3), ("serve", 4), ("serve", 100), ("close",), ("undo",)):
            live = make_live()
            with Attempt(live):
                operate(live, operation)
                self.assertNotEqual(state(live), state(make_live()))
            self.assert_like_new(live)

    def test_named_argument(self):
        live = make_live()
        with Attempt(live=live):
            live.close()
        self.assert_like_new(live)

    def test_the_block_sees_what_it_does(self):
        live = make_live()
        with Attempt(live):
            self.assertEqual([live.serve(4), live.close(), live.loaves, live.today], [4, 0, 3, 2])
            self.assertEqual((live.balance, list(live.by_age())), ((6, 0, 0), [(1, 3)]))
            self.assertEqual(live.history[-2:], [("serve", 4), ("close",)])
        self.assert_like_new(live)

    def test_nothing_is_done(self):
        live = make_live()
        with Attempt(live):
            pass
        self.assert_like_new(live)

    def test_undo_to_before_the_block(self):
        live = make_live()
        with Attempt(live):
            live.serve(1)
            self.assertEqual([live.undo() for _ in range(6)], [True] * 5 + [False])
            live.bake(100)
            live.close()
            self.assertEqual(live.history, [("bake", 100), ("close",)])
        self.assert_like_new(live)

    def test_a_new_live_bakery(self):
        live = LiveBakery(1)
        with Attempt(live):
            live.bake(3)
            live.close()
        self.assertEqual(state(live), state(LiveBakery(1)))
        self.assertIs(live.undo(), False)

    def test_live_bakery_goes_on(self):
        live = make_live()
        with Attempt(live):
            live.serve(7)
        self.assertEqual([live.serve(4), live.history[-1]], [4, ("serve", 4)])
        self.assertIs(live.undo(), True)
        self.assert_like_new(live)

    def test_other_live_bakeries_go_on(self):
        live, other = make_live(), LiveBakery(3)
        with Attempt(live):
            live.close()
            other.bake(8)
        self.assert_like_new(live)
        self.assertEqual(other.history, [("bake", 8)])

    def test_errors_leave_the_block(self):
        for error in (Burnt("x"), ValueError("y"), KeyboardInterrupt(), StopIteration()):
            live = make_live()
            with self.assertRaises(type(error)) as caught:
                with Attempt(live):
                    live.bake(1)
                    live.undo()
                    live.undo()
                    raise error
            self.assertIs(caught.exception, error)
            self.assert_like_new(live)

    def test_errors_of_the_package_leave_the_block(self):
        for call, error in ((lambda live: live.bake(-1), InvalidNumber),
                            (lambda live: live.serve(10 ** 9 + 1), InvalidNumber),
                            (lambda live: LiveBakery.replay(2, ("shut",)), InvalidOperation)):
            live = make_live()
            with self.assertRaises(error):
                with Attempt(live):
                    live.close()
                    call(live)
            self.assert_like_new(live)

    def test_errors_within_the_block(self):
        live = make_live()
        with Attempt(live):
            live.serve(1)
            with self.assertRaises(InvalidNumber):
                live.bake(-1)
            self.assertEqual(live.history[-1], ("serve", 1))
        self.assert_like_new(live)

    def test_return_from_the_block(self):
        def count_thrown(live):
            with Attempt(live):
                live.serve(1)
                live.close()
                return live.balance[2]

        live = make_live()
        self.assertEqual(count_thrown(live), 2)
        self.assert_like_new(live)

    def test_breaks_of_loops(self):
        live = make_live()
        for customers in range(5):
            with Attempt(live):
                if live.serve(customers) == 3:
                    break
        self.assertEqual(customers, 3)
        self.assert_like_new(live)


class NestedTest(unittest.TestCase):
    def test_nested_blocks(self):
        live = make_live()
        states = [state(live)]
        with Attempt(live):
            live.serve(1)
            states.append(state(live))
            with Attempt(live):
                live.close()
                states.append(state(live))
                with Attempt(live):
                    for _ in range(9):
                        live.undo()
                    live.bake(7)
                self.assertEqual(state(live), states[2])
            self.assertEqual(state(live), states[1])
            self.assertIs(live.undo(), True)
            self.assertEqual(state(live), states[0])
        self.assertEqual(undo_all(live), undo_all(make_live()))

    def test_errors_leave_one_block_or_all(self):
        live = make_live()
        with Attempt(live):
            live.serve(1)
            before = state(live)
            with self.assertRaises(Burnt):
                with Attempt(live):
                    live.undo()
                    live.undo()
                    raise Burnt
            self.assertEqual(state(live), before)
        self.assertEqual(state(live), state(make_live()))
        with self.assertRaises(Burnt):
            with Attempt(live):
                live.undo()
                with Attempt(live):
                    live.close()
                    raise Burnt
        self.assertEqual(undo_all(live), undo_all(make_live()))

    def test_several_in_one_statement(self):
        live, other = make_live(), LiveBakery(3)
        with Attempt(live), Attempt(other), Attempt(live):
            live.close()
            other.bake(1)
        self.assertEqual(undo_all(live), undo_all(make_live()))
        self.assertEqual(other.history, [])

    def test_one_attempt_for_several_blocks(self):
        live = make_live()
        attempt = Attempt(live)
        live.serve(1)
        for _ in range(3):
            with attempt:
                live.undo()
                live.bake(1)
            self.assertEqual(live.history[-1], ("serve", 1))
            live.undo()
            live.serve(1)
        live.undo()
        self.assertEqual(undo_all(live), undo_all(make_live()))

    def test_one_attempt_for_nested_blocks(self):
        live = make_live()
        attempt = Attempt(live)
        with attempt:
            live.serve(1)
            before = state(live)
            with attempt:
                live.close()
                live.undo()
                live.undo()
                live.undo()
            self.assertEqual(state(live), before)
        self.assertEqual(undo_all(live), undo_all(make_live()))

    def test_errors_leave_nested_blocks_of_one_attempt(self):
        live = make_live()
        attempt = Attempt(live)
        for _ in range(2):
            with self.assertRaises(Burnt) as caught:
                with attempt:
                    live.undo()
                    before = state(live)
                    with self.assertRaises(InvalidNumber):
                        with attempt:
                            live.undo()
                            live.bake(-1)
                    self.assertEqual(state(live), before)
                    with attempt:
                        live.close()
                        raise Burnt
            self.assertEqual(type(caught.exception), Burnt)
            self.assertEqual(state(live), state(make_live()))
        self.assertEqual(undo_all(live), undo_all(make_live()))

    def test_one_attempt_around_and_within_another(self):
        live = make_live()
        one, other = Attempt(live), Attempt(live)
        states = []
        with one:
            live.serve(1)
            states.append(state(live))
            with other:
                live.undo()
                live.undo()
                states.append(state(live))
                with one:
                    live.bake(9)
                    live.close()
                    states.append(state(live))
                    with other:
                        while live.undo():
                            pass
                    self.assertEqual(state(live), states[2])
                self.assertEqual(state(live), states[1])
            self.assertEqual(state(live), states[0])
        self.assertEqual(undo_all(live), undo_all(make_live()))

    def test_blocks_that_end_in_the_order_of_their_beginning(self):
        def steps(live, customers):
            with Attempt(live):
                live.serve(customers)
                yield

        live = make_live()
        first, second = steps(live, 1), steps(live, 2)
        next(first)
        between = state(live)
        next(second)
        self.assertEqual(live.history[-2:], [("serve", 1), ("serve", 2)])
        self.assertEqual(list(first), [])
        self.assertEqual(state(live), state(make_live()))
        self.assertEqual(list(second), [])
        self.assertEqual(state(live), between)
        live.undo()
        self.assertEqual(undo_all(live), undo_all(make_live()))

    def test_one_live_bakery_is_not_another_one(self):
        live, other = make_live(), make_live()
        attempt, different = Attempt(live), Attempt(other)
        with attempt:
            live.serve(1)
            with different:
                other.close()
                live.serve(1)
            self.assertEqual(live.history[-2:], [("serve", 1), ("serve", 1)])
            self.assertEqual(undo_all(other), undo_all(make_live()))
        self.assertEqual(other.history, [])
        self.assertEqual(undo_all(live), undo_all(make_live()))


class ModelTest(unittest.TestCase):
    def play(self, source, live, model, depth, attempts=()):
        """Does random operations, in nested attempts, too, some of which end by an error."""
        for _ in range(source.randint(0, 8)):
            if depth < 4 and source.random() < 0.25:
                kept = list(model.operations)
                try:
                    with source.choice(attempts) if attempts else Attempt(live):
                        self.play(source, live, model, depth + 1, attempts)
                        if source.random() < 0.4:
                            live.bake(-1)
                except LoafError:
                    pass
                model.operations = kept
            else:
                operation = random_operation(source, 6)
                self.assertEqual(operate(live, operation), model.operate(operation))
            self.assertEqual(state(live), model_state(model))

    def assert_random_attempts(self, source, count):
        """Plays with so many attempts, each for several blocks, or with a new one for each block."""
        for _ in range(200):
            life = source.choice((1, 2, 3, 30))
            live, model = LiveBakery(life), LiveModel(life)
            attempts = [Attempt(live) for _ in range(count)]
            for _ in range(2):
                self.play(source, live, model, 0, attempts)
            while model.operations:
                model.operations.pop()
                self.assertIs(live.undo(), True)
                self.assertEqual(state(live), model_state(model))
            self.assertIs(live.undo(), False)

    def test_random_attempts(self):
        self.assert_random_attempts(random.Random(155), 0)

    def test_random_blocks_of_shared_attempts(self):
        for count in (1, 2, 3):
            self.assert_random_attempts(random.Random(count), count)


if __name__ == "__main__":
    unittest.main()
