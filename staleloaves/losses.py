"""When customers are missed or loaves thrown away, and how to miss fewer customers."""

from staleloaves.limits import LAST_DAY, MOST_LOAVES, check_number

MOST_MISSED = 10 ** 12

# Where the numbers stand in the tuples (sold, missed, thrown).
MISSED = 1
THROWN = 2


def next_missed(bakery, day):
    """Returns the first day, from a given one on, on which customers are missed, or None."""
    check_number(day, 0, LAST_DAY)
    # The stock is never less than a round before. So after a round without missed customers there are none.
    return find_loss(bakery, MISSED, day, len(bakery.bakes))


def next_thrown(bakery, day):
    """Returns the first day, from a given one on, on which loaves are thrown away, or None."""
    check_number(day, 0, LAST_DAY)
    # A day on which loaves are thrown away ends with all that can be kept, and so it does a round later.
    # So no such day is earlier than the one before the settled day.
    first = max(day, bakery.settled_day - 1)
    return find_loss(bakery, THROWN, first, 1 + len(bakery.bakes))


def find_loss(bakery, place, first, days):
    """Returns the first one of so many days that has a number other than 0 at this place, or None."""
    for day in range(first, first + days):
        if bakery.course.sales_on(day)[place] > 0:
            return day
    return None


def least_life(bakery, missed):
    """Returns the smallest life with which not more customers are missed per round in the long run, or None."""
    check_number(missed, 0, MOST_MISSED)
    for life in range(1, bakery.MAX_LIFE + 1):
        if bakery.with_life(life).long_run[MISSED] <= missed:
            return life
    return None


def least_baking(bakery, missed):
    """Returns the smallest increase of each bake with which not more customers are missed likewise, or None."""
    check_number(missed, 0, MOST_MISSED)
    low = 0
    high = MOST_LOAVES - max(bakery.bakes)
    if bakery.baking_more(high).long_run[MISSED] > missed:
        return None
    # More loaves never miss more customers, so the increases that suffice are all those from the smallest one on.
    while low < high:
        middle = (low + high) // 2
        if bakery.baking_more(middle).long_run[MISSED] <= missed:
            high = middle
        else:
            low = middle + 1
    return low
