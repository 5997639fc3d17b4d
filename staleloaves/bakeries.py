"""Bakeries that repeat a round of days."""

from staleloaves.courses import Course
from staleloaves.errors import InvalidBakery
from staleloaves.limits import LAST_DAY, MOST_LOAVES, check_number


def check_amounts(part, amounts):
    """Raises InvalidBakery for the first amount that is out of range, or that the round has no place for."""
    for at, amount in enumerate(amounts):
        if at == Bakery.MAX_DAYS or amount < 0 or amount > MOST_LOAVES:
            raise InvalidBakery(part, at)


def check_life(life):
    """Raises InvalidBakery if a life is out of range."""
    if life < 1 or life > Bakery.MAX_LIFE:
        raise InvalidBakery("life", -1)


def check_bakery(bakes, demands, life):
    """Raises InvalidBakery for the first fault of what a bakery is to be made of."""
    check_amounts("bakes", bakes)
    if len(bakes) == 0:
        raise InvalidBakery("bakes", -1)
    check_amounts("demands", demands)
    if len(demands) != len(bakes):
        raise InvalidBakery("demands", -1)
    check_life(life)


class Bakery:
    """A bakery: what it bakes and how many customers come on each day of the round, and its shelf life."""

    MAX_DAYS = 24
    MAX_LIFE = 30

    def __init__(self, bakes, demands, life):
        check_bakery(bakes, demands, life)
        self._bakes = tuple(bakes)
        self._demands = tuple(demands)
        self._life = life
        self.course = Course(self._bakes, self._demands, life)
        self._settled_day = self.course.find_settled()
        self._long_run = self.course.sum_settled_round()

    @property
    def bakes(self):
        """How many loaves are baked on each day of the round."""
        return self._bakes

    @property
    def demands(self):
        """How many customers come on each day of the round."""
        return self._demands

    @property
    def life(self):
        """On how many days a loaf can be sold."""
        return self._life

    @property
    def settled_day(self):
        """The first day from which on the stock is always the same as a round later."""
        return self._settled_day

    @property
    def long_run(self):
        """A tuple (sold, missed, thrown) per round from the settled day on."""
        return self._long_run

    def with_life(self, life):
        """Returns the bakery with another life."""
        return Bakery(self._bakes, self._demands, life)

    def baking_more(self, count):
        """Returns the bakery that bakes so many more loaves on each day."""
        return Bakery(tuple([bake + count for bake in self._bakes]), self._demands, self._life)

    def stock(self, day):
        """Returns how many loaves there are at the beginning of a day."""
        check_number(day, 0, LAST_DAY)
        return self.course.stock_at(day)

    def sold(self, day):
        """Returns how many loaves are sold on a day."""
        check_number(day, 0, LAST_DAY)
        return self.course.sales_on(day)[0]

    def missed(self, day):
        """Returns how many customers are missed on a day."""
        check_number(day, 0, LAST_DAY)
        return self.course.sales_on(day)[1]

    def thrown(self, day):
        """Returns how many loaves are thrown away on a day."""
        check_number(day, 0, LAST_DAY)
        return self.course.sales_on(day)[2]

    def totals(self, days):
        """Returns a tuple (sold, missed, thrown) for the first so many days."""
        check_number(days, 0, LAST_DAY)
        return self.course.sales_before(days)

    def shelf(self, day):
        """Returns tuples (day of baking, count) of the loaves at the beginning of a day, in ascending order."""
        check_number(day, 0, LAST_DAY)
        return self.course.loaves_at(day)
