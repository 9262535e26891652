"""Making: how a text becomes a book in which no two neighbours stand twice."""

from pairrules.errors import NoText

LONGEST_TEXT = 1000


def made(text):
    """The book that the text is made into, or NoText."""
    if not isinstance(text, str) or len(text) > LONGEST_TEXT:
        raise NoText("this is no text of at most 1000 signs")
    rules = []
    row = list(text)
    pair = commonest_pair(row)
    while pair is not None:
        row = replaced(row, pair, len(rules))
        rules.append(pair)
        pair = commonest_pair(row)
    return rules, row


def commonest_pair(row):
    """The pair that stands in the row most often, or None if none stands there twice."""
    best = None
    most = 1
    # The counts are in the order in which the pairs first stand in the row, so of
    # several pairs with the same count the first one met is the one to take.
    for pair, count in pair_counts(row).items():
        if count > most:
            best = pair
            most = count
    return best


def pair_counts(row):
    """How often each pair of neighbours stands in the row, each symbol used once."""
    counts = {}
    # Where the symbols begin that the pair has not used: `aaa` has its pair once.
    unused = {}
    for at in range(len(row) - 1):
        pair = (row[at], row[at + 1])
        if at >= unused.get(pair, 0):
            counts[pair] = counts.get(pair, 0) + 1
            unused[pair] = at + 2
    return counts


def replaced(row, pair, number):
    """A new row, with the number for the pair each time that it stands there, from the left."""
    found = []
    at = 0
    while at < len(row):
        if tuple(row[at:at + 2]) == pair:
            found.append(number)
            at += 2
        else:
            found.append(row[at])
            at += 1
    return found
