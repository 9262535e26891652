"""The errors with which the program refuses what is handed in."""


class BookError(ValueError):
    """Any refusal."""


class NoBook(BookError):
    """What was handed in is no book."""


class NoText(BookError):
    """What was handed in is no text that a book can be made of."""


class NoPlace(BookError):
    """What was handed in is no place of the told text."""


class NoWord(BookError):
    """What was handed in is no word to search for."""
