"""The errors with which the program refuses what it is handed."""


class CountError(ValueError):
    """What all refusals of this program are."""


class NoBook(CountError):
    """Something is no book: fault is "shape", "names" or "great"."""

    def __init__(self, fault):
        super().__init__(f"this is no book: {fault}")
        self.fault = fault


class NoAsking(CountError):
    """A book has no such errand, or one with another number of names."""


class NoMost(CountError):
    """The most that may be asked is no whole number from 0 to 300."""


class TooMany(CountError):
    """A book has too many names to try all ways to lend them."""


class NoText(CountError):
    """A text is not what any book is written as."""


class NoRow(CountError):
    """A row is none that the desk knows."""


class NoStand(CountError):
    """No book stands at the desk yet."""
