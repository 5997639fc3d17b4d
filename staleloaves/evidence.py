"""Evidence that no order of selling sells more than selling the oldest loaves first; selling the newest first."""

from staleloaves.errors import InvalidDays
from staleloaves.limits import check_number

MOST_EVIDENCE_DAYS = 200
MOST_NEWEST_DAYS = 1000


def check_chosen(chosen, days):
    """Raises InvalidDays for the first item that is not one of the first so many days, or is not ascending."""
    before = -1
    for at, day in enumerate(chosen):
        if day <= before or day >= days:
            raise InvalidDays(at)
        before = day


def judge_days(bakery, days, chosen):
    """Returns the bound that a list of days shows for how many loaves can be sold on the first so many days."""
    check_number(days, 1, MOST_EVIDENCE_DAYS)
    check_chosen(chosen, days)
    listed = set(chosen)
    bound = 0
    # The next day that is not listed: behind the last day there is none, so take one that no loaf lasts for.
    unlisted = days + bakery.life
    for day in reversed(range(days)):
        at = day % len(bakery.bakes)
        if day in listed:
            bound += bakery.demands[at]
        else:
            unlisted = day
        if unlisted < day + bakery.life:
            bound += bakery.bakes[at]
    return bound


def find_unsold(bakery, days):
    """Returns the days of baking of which not all loaves are sold on the first so many days."""
    thrown = [day - bakery.life + 1 for day in range(days) if bakery.thrown(day) > 0]
    return thrown + [baked for baked, _ in bakery.shelf(days)]


def find_days(bakery, days):
    """Returns an ascending list of days that shows as a bound how many loaves are sold on the first so many days."""
    check_number(days, 1, MOST_EVIDENCE_DAYS)
    unsold = find_unsold(bakery, days)
    # Listed are the days on which an unsold loaf could be sold, and those before them back to a day that begins
    # without loaves. So on listed days nobody is missed, and only loaves are sold that cannot be sold on other
    # days. All loaves that can be sold on other days are sold. This is just what the bound counts.
    found = []
    for day in reversed(range(days)):
        spare = [baked for baked in unsold if baked <= day < baked + bakery.life]
        if len(spare) > 0 or (day + 1 in found and bakery.stock(day + 1) > 0):
            found.append(day)
    return found[::-1]


def sell_in_order(counts, customers):
    """Returns what is left of these counts of loaves if customers take from the first ones on."""
    left = []
    for count in counts:
        taken = min(count, customers)
        left.append(count - taken)
        customers -= taken
    return left


def newest_first(bakery, days):
    """Returns a tuple (sold, missed, thrown) for the first so many days if the newest loaves are sold first."""
    check_number(days, 0, MOST_NEWEST_DAYS)
    sold = missed = thrown = 0
    # The loaves by age, the newest ones first.
    left = [0] * bakery.life
    for day in range(days):
        at = day % len(bakery.bakes)
        counts = [bakery.bakes[at]] + left[:-1]
        left = sell_in_order(counts, bakery.demands[at])
        served = sum(counts) - sum(left)
        sold += served
        missed += bakery.demands[at] - served
        thrown += left[-1]
    return sold, missed, thrown
