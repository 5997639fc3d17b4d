"""A plain model of live bakeries for comparisons: it plays every loaf of all operations in effect, each time anew."""

from collections import Counter, deque


class LiveModel:
    """Knows nothing but the life and the operations in effect."""

    def __init__(self, life, operations=()):
        self.life = life
        self.operations = list(operations)

    def play(self):
        """Plays everything; returns (today, loaves, balance, loaves by age) and what the last operation returns."""
        today = sold = missed = thrown = 0
        result = None
        shelf = deque()
        for operation in self.operations:
            if operation[0] == "bake":
                shelf.extend([today] * operation[1])
                result = len(shelf)
            elif operation[0] == "serve":
                result = 0
                for _ in range(operation[1]):
                    if shelf:
                        shelf.popleft()
                        result += 1
                    else:
                        missed += 1
                sold += result
            else:
                result = 0
                while shelf and shelf[0] + self.life - 1 <= today:
                    shelf.popleft()
                    result += 1
                thrown += result
                today += 1
        by_age = sorted(Counter(shelf).items())
        return (today, len(shelf), (sold, missed, thrown), by_age), result

    def operate(self, operation):
        """Does an operation, which may also be ("undo",); returns what it returns."""
        if operation == ("undo",):
            if not self.operations:
                return False
            self.operations.pop()
            return True
        self.operations.append(operation)
        return self.play()[1]


def operate(live, operation):
    """Does an operation of a live bakery; returns what it returns."""
    return getattr(live, operation[0])(*operation[1:])


def state(live):
    """Returns all that can be seen of a live bakery, in the order of `LiveModel.play`, and its history."""
    return (live.today, live.loaves, live.balance, list(live.by_age())), live.history


def model_state(model):
    """Returns what `state` should return."""
    return model.play()[0], model.operations


def random_operation(source, most):
    """Returns an operation with amounts up to the most, sometimes ("undo",)."""
    word = source.choice(("bake", "bake", "serve", "serve", "close", "close", "undo"))
    if word in ("bake", "serve"):
        return (word, source.randint(0, most))
    return (word,)
