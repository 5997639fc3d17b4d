"""The errors that the package raises."""


class LoafError(ValueError):
    """The base class of all errors of the package."""


class InvalidBakery(LoafError):
    """A bakery is wrong at an index of its bakes or demands, or, with the index -1, in a part as a whole."""

    def __init__(self, part, index):
        super().__init__(f"wrong {part} (index {index})")
        self.part = part
        self.index = index


class InvalidNumber(LoafError):
    """A day or another number is out of its range."""


class InvalidDays(LoafError):
    """A list of days is not ascending, or leaves its range, at an index."""

    def __init__(self, index):
        super().__init__(f"wrong day (index {index})")
        self.index = index


class Contradiction(LoafError):
    """An observation fits none of the lives that were possible before."""


class InvalidRule(LoafError):
    """A number of a baker's rule, the part, is out of its range."""

    def __init__(self, part):
        super().__init__(f"wrong {part}")
        self.part = part
