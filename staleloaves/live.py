"""A bakery that is used step by step, and attempts that leave it as it was."""

from staleloaves.bakeries import check_life
from staleloaves.errors import InvalidOperation
from staleloaves.evidence import sell_in_order
from staleloaves.limits import MOST_LOAVES, check_number


class Moment:
    """What a live bakery is like after an operation, and the moment before it. A moment never changes.

    The counts are those of the loaves of each day of baking that is not too long ago, today last. The sums are
    how many loaves were sold, customers missed and loaves thrown away.
    """

    def __init__(self, day, counts, sums, operation, before):
        self.day = day
        self.counts = counts
        self.sums = sums
        self.operation = operation
        self.before = before


class LiveBakery:
    """A bakery in which somebody bakes, serves customers and closes for the night, and may undo all that."""

    def __init__(self, life):
        check_life(life)
        # A list of the present moment alone, which attempts share: the rows of __exit__ may fill a list, and may
        # name only one object besides their own, which is the block there.
        self.present = [Moment(0, (0,) * life, (0, 0, 0), None, None)]

    @property
    def today(self):
        """The present day."""
        return self.present[0].day

    @property
    def loaves(self):
        """How many loaves there are."""
        return sum(self.present[0].counts)

    @property
    def balance(self):
        """A tuple of how many loaves were sold, customers missed and loaves thrown away."""
        return self.present[0].sums

    @property
    def history(self):
        """The list of the operations in effect, in order, as tuples."""
        operations = []
        moment = self.present[0]
        while moment.before is not None:
            operations.append(moment.operation)
            moment = moment.before
        return operations[::-1]

    def bake(self, loaves):
        """Bakes so many loaves; returns how many there are then."""
        check_number(loaves, 0, MOST_LOAVES)
        now = self.present[0]
        counts = now.counts[:-1] + (now.counts[-1] + loaves,)
        self.present[0] = Moment(now.day, counts, now.sums, ("bake", loaves), now)
        return self.loaves

    def serve(self, customers):
        """Sells a loaf to each of so many customers while there are any; returns how many are sold."""
        check_number(customers, 0, MOST_LOAVES)
        now = self.present[0]
        left = tuple(sell_in_order(now.counts, customers))
        served = sum(now.counts) - sum(left)
        sold, missed, thrown = now.sums
        sums = (sold + served, missed + customers - served, thrown)
        self.present[0] = Moment(now.day, left, sums, ("serve", customers), now)
        return served

    def close(self):
        """Ends the day; returns how many loaves are thrown away."""
        now = self.present[0]
        sold, missed, thrown = now.sums
        sums = (sold, missed, thrown + now.counts[0])
        self.present[0] = Moment(now.day + 1, now.counts[1:] + (0,), sums, ("close",), now)
        return now.counts[0]

    def undo(self):
        """Reverts the last operation in effect; returns False if there is none, else True."""
        before = self.present[0].before
        if before is None:
            return False
        self.present[0] = before
        return True

    def by_age(self):
        """Yields tuples (day of baking, number) of the loaves that are there, the oldest ones first."""
        now = self.present[0]
        first = now.day - len(now.counts) + 1
        for day, count in enumerate(now.counts, start=first):
            if count > 0:
                yield day, count

    @classmethod
    def replay(cls, life, *operations):
        """Returns a live bakery after operations: tuples as in a history, and ("undo",)."""
        live = cls(life)
        for index, operation in enumerate(operations):
            operate(live, operation, index)
        return live


def operate(live, operation, index):
    """Does one of the operations of `replay`, the one at an index."""
    # A boolean is not an integer here, although Python takes it for one.
    match operation:
        case ("bake", number) if isinstance(number, int) and not isinstance(number, bool):
            live.bake(number)
        case ("serve", number) if isinstance(number, int) and not isinstance(number, bool):
            live.serve(number)
        case ("close",):
            live.close()
        case ("undo",):
            live.undo()
        case _:
            raise InvalidOperation(index)


class Block:
    """The moment at which a block began, and the block around it that has the same attempt, or None."""

    def __init__(self, begun, around):
        self.begun = begun
        self.around = around


class Attempt:
    """Leaves a live bakery, at the end of a block, as it was at its beginning."""

    def __init__(self, live):
        self._present = live.present
        # An attempt can serve several blocks, one after the other or one within the other.
        self._block = None

    def __enter__(self):
        self._block = Block(self._present[0], self._block)

    def __exit__(self, kind, value, trace):
        block = self._block
        self._present.clear()
        self._present.append(block.begun)
        self._block = block.around
