"""The limits of numbers that several files share, and the check of a number."""

from staleloaves.errors import InvalidNumber

MOST_LOAVES = 10 ** 9
LAST_DAY = 10 ** 18


def check_number(number, lowest, highest):
    """Raises InvalidNumber if the number is not from the lowest to the highest one."""
    if number < lowest or number > highest:
        raise InvalidNumber(f"{number} is not from {lowest} to {highest}")
