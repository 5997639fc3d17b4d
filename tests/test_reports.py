"""Point 16: reports and their parsing."""

import random
import re
import unittest

from staleloaves.bakeries import Bakery
from staleloaves.errors import InvalidNumber, InvalidReport
from staleloaves.reports import parse_report, report
from tests.simulation import Simulation, play_shelf, random_parts

MOST = 10 ** 9
LAST = 10 ** 18
HEAD = "                       day         baked          sold        missed        thrown"
WIDTHS = (26, 14, 14, 14, 14)
NUMBER = re.compile(r" *(0|[1-9][0-9]{0,2}(,[0-9]{3})*)", re.ASCII)


def group_digits(number):
    digits = str(number)
    groups = []
    while digits:
        groups.insert(0, digits[-3:])
        digits = digits[:-3]
    return ",".join(groups)


def make_line(numbers):
    line = ""
    for number, width in zip(numbers, WIDTHS):
        cell = group_digits(number)
        line += " " * (width - len(cell)) + cell
    return line


def make_text(rows):
    return "\n".join([HEAD] + [make_line(row) for row in rows])


def read_line(line):
    """Returns the numbers of a line as a pattern finds them, or None."""
    if len(line) != 82:
        return None
    numbers = []
    for width in WIDTHS:
        if not NUMBER.fullmatch(line[:width]):
            return None
        numbers.append(int(line[:width].replace(",", "")))
        line = line[width:]
    return tuple(numbers)


def read_text(text):
    """Returns the rows of a text, or the row of its first wrong line."""
    lines = text.split("\n")
    if lines[0] != HEAD:
        return 0
    rows = [read_line(line) for line in lines[1:]]
    return rows.index(None) + 1 if None in rows else rows


def parse(text):
    """Returns what parse_report returns, or the row of its error."""
    try:
        return parse_report(text)
    except InvalidReport as error:
        return error.row


class ReportTest(unittest.TestCase):
    def test_examples(self):
        bakery = Bakery((5, 0), (2, 2), 2)
        self.assertEqual(parse_report(report(bakery, 0, 1)), [(0, 5, 2, 0, 0), (1, 0, 2, 0, 1)])
        self.assertEqual(report(bakery, 1000, 1000).split("\n")[1][:40], "                     1,000             5")

    def test_names_of_arguments(self):
        bakery = Bakery((5, 0), (2, 2), 2)
        text = report(bakery=bakery, first=0, last=0)
        self.assertEqual(parse_report(text=text), [(0, 5, 2, 0, 0)])

    def test_exact_text(self):
        expected = (
            "                       day         baked          sold        missed        thrown\n"
            "                       998         1,234             5             0             0\n"
            "                       999             0         1,000             0           229\n"
            "                     1,000         1,234             5             0             0\n"
            "                     1,001             0         1,000             0           229")
        self.assertEqual(report(Bakery((1234, 0), (5, 1000), 2), 998, 1001), expected)

    def test_great_numbers(self):
        bakery = Bakery((MOST, 0, 0), (0, 0, MOST), 2)
        # The last day has the index 1 in the round of three days.
        self.assertEqual(LAST % 3, 1)
        self.assertEqual(report(bakery, LAST - 2, LAST).split("\n"), [
            HEAD,
            "   999,999,999,999,999,998             0             0 1,000,000,000             0",
            "   999,999,999,999,999,999 1,000,000,000             0             0             0",
            " 1,000,000,000,000,000,000             0             0             0 1,000,000,000"])

    def test_numbers_of_all_lengths(self):
        amounts = (0, 9, 10, 99, 100, 999, 1000, 9999, 10000, 99999, 100000, 999999, 1000000, 9999999, 10000000,
                   99999999, 100000000, 999999999, MOST)
        for amount in amounts:
            cell = group_digits(amount).rjust(14)
            zero = " " * 13 + "0"
            for bakes, demands, cells in (((amount,), (0,), cell + zero + zero + cell),
                                          ((amount,), (amount,), cell + cell + zero + zero),
                                          ((0,), (amount,), zero + zero + cell + zero)):
                line = report(Bakery(bakes, demands, 1), 7, 7).split("\n")[1]
                self.assertEqual(line, " " * 25 + "7" + cells)
        for day in amounts + (10 ** 12, 10 ** 15 - 1, 10 ** 15, LAST - 1, LAST):
            line = report(Bakery((0,), (0,), 1), day, day).split("\n")[1]
            self.assertEqual(line, group_digits(day).rjust(26) + (" " * 13 + "0") * 4)

    def test_form(self):
        text = report(Bakery((7, 0, 9999), (2, 1000, 3), 3), 10 ** 6 - 5, 10 ** 6 + 5)
        self.assertEqual({len(line) for line in text.split("\n")}, {82})
        self.assertEqual(text.count("\n"), 11)
        self.assertFalse(text.endswith("\n"))

    def test_simulation(self):
        for bakes, demands, life in random_parts(161, 80, 8, 9, 12):
            bakery = Bakery(bakes, demands, life)
            simulation = Simulation(bakes, demands, life)
            for first, last in ((0, 0), (0, 40), (5, 30), (990, 1010), (LAST - 20, LAST)):
                rows = [(day, bakes[day % len(bakes)]) + simulation.sales_on(day) for day in range(first, last + 1)]
                self.assertEqual(report(bakery, first, last), make_text(rows))
                self.assertEqual(parse_report(report(bakery, first, last)), rows)

    def test_great_amounts(self):
        for bakes, demands, life in random_parts(162, 40, 24, MOST, 30):
            shelf, rows = [], []
            for day in range(100):
                at = day % len(bakes)
                sold, missed, thrown, shelf = play_shelf(shelf, day, bakes[at], demands[at], life)
                rows.append((day, bakes[at], sold, missed, thrown))
            self.assertEqual(report(Bakery(bakes, demands, life), 0, 99), make_text(rows))

    def test_one_and_five_hundred_days(self):
        bakery = Bakery((5, 0), (2, 2), 2)
        for first in (0, 1, 499, 500, 10 ** 9, LAST - 499):
            self.assertEqual(len(report(bakery, first, first).split("\n")), 2)
            rows = parse_report(report(bakery, first, first + 499))
            self.assertEqual([row[0] for row in rows], list(range(first, first + 500)))

    def test_days_out_of_range(self):
        bakery = Bakery((5, 0), (2, 2), 2)
        wrong = [(-1, 0), (-1, -1), (0, -1), (1, 0), (5, 4), (LAST, LAST - 1), (LAST, 0), (0, 500), (1, 501),
                 (10 ** 9, 10 ** 9 + 500), (LAST - 500, LAST), (0, LAST), (LAST, LAST + 1), (LAST + 1, LAST + 1),
                 (LAST - 3, LAST + 1), (-500, 3), (LAST + 5, LAST), (0, LAST + 1), (-10 ** 30, 10 ** 30)]
        for first, last in wrong:
            with self.subTest(first=first, last=last), self.assertRaises(InvalidNumber):
                report(bakery, first, last)

    def test_calls_again(self):
        bakery = Bakery((5, 0), (2, 2), 2)
        text = report(bakery, 3, 9)
        self.assertEqual(report(bakery, 3, 9), text)
        rows = parse_report(text)
        rows.clear()
        self.assertEqual(len(parse_report(text)), 7)


class ParseTest(unittest.TestCase):
    def assert_row(self, row, text):
        with self.subTest(text=text), self.assertRaises(InvalidReport) as caught:
            parse_report(text)
        self.assertEqual(caught.exception.row, row)

    def assert_wrong_line(self, line):
        """Asserts that a line is wrong wherever it stands."""
        right = make_line((3, 0, 10, 1000, 10 ** 6))
        self.assert_row(1, "\n".join([HEAD, line]))
        self.assert_row(1, "\n".join([HEAD, line, line, right]))
        self.assert_row(3, "\n".join([HEAD, right, right, line, right]))

    def test_example(self):
        self.assert_row(0, "day")

    def test_whatever_numbers(self):
        rows = [(9, 8, 7, 6, 5), (3, 0, 0, 0, 0), (3, 0, 0, 0, 0), (0, MOST, 1, 2, 3),
                (LAST, 999, 1000, 999999, 10 ** 6), (10 ** 19, 10 ** 10, 99999999999, 0, 12345678901),
                (99999999999999999999, 0, 0, 0, 99999999999),
                (1, 100, 10, 1000000, 1001000)]
        self.assertEqual(parse_report(make_text(rows)), rows)
        self.assertEqual(parse_report(make_text(rows[::-1])), rows[::-1])
        self.assertEqual({type(row) for row in parse_report(make_text(rows))}, {tuple})

    def test_many_days(self):
        rows = [(day, 5, 4, 3, 2) for day in range(600)]
        self.assertEqual(parse_report(make_text(rows)), rows)

    def test_first_line_only(self):
        # No line of it is wrong.
        self.assertEqual(parse_report(HEAD), [])

    def test_full_columns(self):
        line = "99,999,999,999,999,999,999" + "99,999,999,999" * 4
        self.assertEqual(parse_report(HEAD + "\n" + line), [(10 ** 20 - 1,) + (10 ** 11 - 1,) * 4])

    def test_wrong_first_lines(self):
        right = make_line((0, 5, 2, 0, 0))
        wrong = ["", "day", HEAD.strip(), HEAD[1:], " " + HEAD, HEAD + " ", HEAD[:-1], HEAD.upper(), HEAD.title(),
                 HEAD.replace("sold", "dole"), HEAD.replace("day ", "day,"), HEAD.replace(" ", "\t"), right,
                 HEAD.replace(" baked", "baked "), HEAD.replace("thrown", "thrwon"), "\r" + HEAD, HEAD + "\r", "0",
                 "\n"]
        for line in wrong:
            self.assert_row(0, line)
            self.assert_row(0, line + "\n" + right)
        self.assert_row(0, "\n" + HEAD + "\n" + right)
        self.assert_row(0, right + "\n" + HEAD)

    def test_wrong_lines(self):
        right = make_line((1234, 50, 6000000, 0, 700))
        self.assertEqual(right, "                     1,234            50     6,000,000             0           700")
        wrong = ["", " ", HEAD, right[1:], " " + right, right + " ", right[:-1], right + "0", right.strip(),
                 right + "\r", right + "\t", "\t" + right[1:], right.replace(" ", "\t"), right * 2, right[:68],
                 right[:81], right + " " * 14, right + " " * 13 + "0", "-" + right[1:], "+" + right[1:]]
        for line in wrong:
            self.assert_wrong_line(line)

    def test_wrong_cells(self):
        wrong = ["", "-5", "+5", "-0", "05", "00", "000", "5 ", "5  ", "1 234", "1234", "12,34", "1,23", "1,2345",
                 ",234", "1,234,", "1,,234", "0,123", "01,234", "001,234", "1.234", "1_234", "1e3", "0x1f", "x",
                 "5,", ",5", "-1,234", "1,-234", "1, 234", "1 ,234", ",", ",,", "-", "1,234.0", "None", "12a",
                 "1,234,56", "1234,567", "1,234567", "\t5", "5\t", "\u0665", "\u00b2", "1,\u0662\u0663\u0664",
                 "\uff11", "\u00a05", "\u20035"]
        for at, width in enumerate(WIDTHS):
            for cell in wrong:
                cells = ["7".rjust(other) for other in WIDTHS]
                cells[at] = cell.rjust(width)
                self.assert_wrong_line("".join(cells))

    def test_spaces_between_lines(self):
        rows = [(0, 5, 2, 0, 0), (1, 0, 2, 0, 1), (2, 5, 2, 0, 0)]
        lines = make_text(rows).split("\n")
        self.assert_row(4, "\n".join(lines) + "\n")
        self.assert_row(1, "\n".join(lines[:1] + [""] + lines[1:]))
        self.assert_row(2, "\n".join(lines[:2] + [""] + lines[2:]))
        self.assert_row(1, HEAD + "\n")
        for other in ("\r\n", "\r", " ", "\x0b", "\x0c", "\x1c", "\x85", "\u2028", ""):
            self.assert_row(0, other.join(lines))
            self.assert_row(2, "\n".join(lines[:2]) + "\n" + other.join(lines[2:]))
        self.assert_row(1, "\n\n".join(lines))

    def test_huge_numbers_are_not_read(self):
        self.assert_wrong_line("9" * 10000)
        self.assert_wrong_line(" " * 68 + "9" * 10000)
        self.assert_wrong_line(make_line((1, 2, 3, 4, 5))[:68] + "9" * 10000)

    def test_random_texts(self):
        source = random.Random(163)
        for _ in range(300):
            rows = [tuple(source.choice((0, source.randint(0, 10 ** source.randint(1, 11) - 1))) for _ in range(5))
                    for _ in range(source.randint(1, 6))]
            self.assertEqual(parse_report(make_text(rows)), rows)

    def change_characters(self, source, text):
        for _ in range(source.randint(1, 2)):
            at = source.randrange(len(text))
            sign = source.choice(" ,-+0123456789\n\t.x")
            way = source.randrange(4)
            if way == 0:
                text = text[:at] + sign + text[at + 1:]
            elif way == 1:
                text = text[:at] + sign + text[at:]
            elif way == 2:
                text = text[:at] + text[at + 1:]
            else:
                text = text[:at] + text[at + 1:at + 2] + text[at:at + 1] + text[at + 2:]
        return text

    def change_lines(self, source, text):
        lines = text.split("\n")
        for _ in range(source.randint(1, 2)):
            at = source.randrange(len(lines))
            way = source.randrange(4)
            if way == 0 and len(lines) > 1:
                del lines[at]
            elif way == 1:
                lines.insert(at, source.choice(lines))
            elif way == 2:
                lines.insert(at, source.choice(("", " " * 82, "0", HEAD)))
            else:
                other = source.randrange(len(lines))
                lines[at], lines[other] = lines[other], lines[at]
        return "\n".join(lines)

    def test_changed_texts(self):
        source = random.Random(164)
        outcomes = {int: 0, list: 0}
        for _ in range(15000):
            length = source.randint(1, 4)
            rows = [(source.choice((7, 999, 1000, LAST)),)
                    + tuple(source.choice((0, 5, 123, 1000, 1234567, MOST)) for _ in range(4)) for _ in range(length)]
            text = make_text(rows)
            change = source.choice((self.change_characters, self.change_characters, self.change_lines))
            changed = change(source, text)
            expected = read_text(changed)
            self.assertEqual(parse(changed), expected, changed)
            outcomes[type(expected)] += 1
        # Both outcomes are common enough for the comparison to say something.
        self.assertGreater(min(outcomes.values()), 1500)

    def test_each_character_changed(self):
        text = make_text([(1234, 5, 0, 1000, 1000000)])
        for at in range(len(text)):
            for sign in " ,-+05\n":
                changed = text[:at] + sign + text[at + 1:]
                self.assertEqual(parse(changed), read_text(changed), changed)


if __name__ == "__main__":
    unittest.main()
