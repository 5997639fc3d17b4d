"""What the shelf life of a bakery can be if some of its days were seen."""

from staleloaves.bakeries import Bakery
from staleloaves.errors import Contradiction


class LifeObserver:
    """Knows a bakery except for its life, and which lives agree with all that was seen."""

    def __init__(self, bakes, demands):
        self._fitting = [Bakery(bakes, demands, life) for life in range(1, Bakery.MAX_LIFE + 1)]
        self._accepted = []

    @property
    def possible_lives(self):
        """The ascending tuple of the lives that remain possible."""
        return tuple([bakery.life for bakery in self._fitting])

    @property
    def records(self):
        """The list of all accepted observations, tuples (kind, day, number)."""
        return list(self._accepted)

    def see_sold(self, day, number):
        """Records how many loaves are sold on a day; returns how many lives remain possible."""
        return self._accept("sold", day, number, [bakery.sold(day) for bakery in self._fitting])

    def see_thrown(self, day, number):
        """Records how many loaves are thrown away on a day; returns how many lives remain possible."""
        return self._accept("thrown", day, number, [bakery.thrown(day) for bakery in self._fitting])

    def see_stock(self, day, number):
        """Records how many loaves there are at the beginning of a day; returns how many lives remain possible."""
        return self._accept("stock", day, number, [bakery.stock(day) for bakery in self._fitting])

    def telling_day(self):
        """Returns the first day on which how many loaves are sold differs for the possible lives, or None."""
        # In all bakeries the sales of the second round repeat in all later ones (as Course.sales_before says
        # of the missed customers). So no later day is the first to differ, and the limit of 2,000 is never met.
        for day in range(2 * len(self._fitting[0].bakes)):
            amounts = [bakery.sold(day) for bakery in self._fitting]
            if min(amounts) < max(amounts):
                return day
        return None

    def _accept(self, kind, day, number, expected):
        """Keeps the bakeries of which the number was to be expected; returns how many these are."""
        fitting = [bakery for bakery, one in zip(self._fitting, expected) if one == number]
        if len(fitting) == 0:
            raise Contradiction(f"{number} {kind} on day {day} fits no possible life")
        self._fitting = fitting
        self._accepted.append((kind, day, number))
        return len(fitting)
