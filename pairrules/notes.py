"""Notes: how a book is written as a text, and read again."""

from pairrules.books import is_sign, need_book
from pairrules.errors import NoBook

MARK = "'"


def shown(book):
    """The book, written: a row for each rule, and then one for its row."""
    rules, row = need_book(book)
    return "\n".join([shown_symbols(symbols) for symbols in [*rules, row]])


def shown_symbols(symbols):
    """The symbols, written, one blank between."""
    return " ".join([shown_symbol(symbol) for symbol in symbols])


def shown_symbol(symbol):
    """The symbol, written."""
    return MARK + symbol if is_sign(symbol) else str(symbol)


def read(line):
    """The book that is written so, or NoBook."""
    # Of the signs that no written text has, a tab alone may be handed in.
    if not isinstance(line, str) or "\t" in line:
        raise NoBook("this is no text that a book is written as")
    worded = rows_of_words(line)
    # Found by its figures, a number is that of a rule, and has no noughts ahead.
    numbers = {str(number): number for number in range(len(worded) - 1)}
    rows = [read_symbols(words, numbers) for words in worded]
    return need_book(([tuple(row) for row in rows[:-1]], rows[-1]))


def rows_of_words(line):
    """The rows of a written text, each a list of its words, which may be empty."""
    rows = [[]]
    start = 0
    # A blank or a line end behind a mark is a sign and does not end the word.
    marked = False
    for at, sign in enumerate(line):
        if not marked and sign in " \n":
            rows[-1].append(line[start:at])
            start = at + 1
            if sign == "\n":
                rows.append([])
        marked = not marked and sign == MARK
    rows[-1].append(line[start:])
    return rows


def read_symbols(words, numbers):
    """The symbols that a row's words tell, or NoBook."""
    # One empty word alone is an empty row; whether it may stand there, need_book tells.
    if words == [""]:
        return []
    return [read_symbol(word, numbers) for word in words]


def read_symbol(word, numbers):
    """The symbol that is written so, or NoBook."""
    if len(word) == 2 and word[0] == MARK:
        return word[1]
    if word not in numbers:
        raise NoBook("this is how no symbol is written")
    return numbers[word]
