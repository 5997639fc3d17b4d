"""The errors that the package raises."""


class LoafError(ValueError):
    """The base class of all errors of the package."""


class InvalidBakery(LoafError):
    """A bakery is wrong at an index of its bakes or demands, or, with the index -1, in a part as a whole."""

    def __init__(self, part, index):
        super().__init__(f"wrong {part} (index {index})")
        self.part = part
        self.index = index


class InvalidNumber(LoafError):
    """A day or another number is out of its range."""


class InvalidDays(LoafError):
    """A list of days is not ascending, or leaves its range, at an index."""

    def __init__(self, index):
        super().__init__(f"wrong day (index {index})")
        self.index = index


class Contradiction(LoafError):
    """An observation fits none of the lives that were possible before."""


class InvalidRule(LoafError):
    """A number of a baker's rule, the part, is out of its range."""

    def __init__(self, part):
        super().__init__(f"wrong {part}")
        self.part = part


class InvalidPrices(LoafError):
    """One of the prices, the part, is out of its range."""

    def __init__(self, part):
        super().__init__(f"wrong {part}")
        self.part = part


class InvalidOperation(LoafError):
    """A tuple at an index is no operation of a live bakery."""

    def __init__(self, index):
        super().__init__(f"no operation (index {index})")
        self.index = index


class InvalidReport(LoafError):
    """A line of a text, the row, is not formed like that line of a report."""

    def __init__(self, row):
        super().__init__(f"wrong line (row {row})")
        self.row = row
