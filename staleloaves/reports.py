"""The days of a bakery as a text."""

from staleloaves.errors import InvalidReport
from staleloaves.limits import LAST_DAY, check_number

MOST_REPORT_DAYS = 500

# The words of the first line, and how wide their columns are.
COLUMNS = (("day", 26), ("baked", 14), ("sold", 14), ("missed", 14), ("thrown", 14))


def join_cells(cells):
    """Returns the line of these cells."""
    return "".join([cell.rjust(width) for cell, (_, width) in zip(cells, COLUMNS)])


def split_cells(line):
    """Returns the cells of a line, without the spaces on the left."""
    cells = []
    start = 0
    for _, width in COLUMNS:
        cells.append(line[start:start + width].lstrip(" "))
        start += width
    return cells


def first_line():
    """Returns the first line of each report."""
    return join_cells([word for word, _ in COLUMNS])


def print_numbers(numbers):
    """Returns the line of the numbers of a day."""
    return join_cells([f"{number:,}" for number in numbers])


def parse_line(line, row):
    """Returns the tuple of the numbers of a line; raises InvalidReport for its row if it is not so formed."""
    numbers = []
    for cell in split_cells(line):
        digits = cell.replace(",", "")
        if not (digits.isascii() and digits.isdigit()):
            raise InvalidReport(row)
        numbers.append(int(digits))
    # This finds all that is wrong with spaces, commas, zeros and the end of the line.
    if print_numbers(numbers) != line:
        raise InvalidReport(row)
    return tuple(numbers)


def check_days(first, last):
    """Raises InvalidNumber if there is no report from the first to the last day."""
    check_number(first, 0, LAST_DAY)
    check_number(last, 0, LAST_DAY)
    check_number(last - first + 1, 1, MOST_REPORT_DAYS)


def report(bakery, first, last):
    """Returns the text of the days from a first to a last one of a bakery."""
    check_days(first, last)
    lines = [first_line()]
    for day in range(first, last + 1):
        baked = bakery.bakes[day % len(bakery.bakes)]
        sold, missed, thrown = bakery.course.sales_on(day)
        lines.append(print_numbers([day, baked, sold, missed, thrown]))
    return "\n".join(lines)


def parse_report(text):
    """Returns the list of the tuples (day, baked, sold, missed, thrown) of a text like a report."""
    lines = text.split("\n")
    if lines[0] != first_line():
        raise InvalidReport(0)
    return [parse_line(line, row) for row, line in enumerate(lines[1:], start=1)]
