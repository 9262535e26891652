"""Books: what they are, and what can be told of them without looking into their texts.

A book is a tuple (rules, row). A symbol is a sign or the number of a rule, and a rule
names only rules before it. So what holds of each rule can be found by going through
the rules once, in order, and no function has to call itself.
"""

from pairrules.errors import NoBook

MOST_RULES = 600
LONGEST_ROW = 2000


def need_book(book):
    """The book, or NoBook."""
    if not is_book(book):
        raise NoBook("this is no book")
    return book


def is_book(book):
    """Whether this is a book."""
    if not isinstance(book, tuple) or len(book) != 2:
        return False
    rules, row = book
    return are_rules(rules) and is_row(row, len(rules))


def are_rules(rules):
    """Whether this is the list of a book's rules."""
    if not isinstance(rules, list) or len(rules) > MOST_RULES:
        return False
    return all([is_rule(rule, number) for number, rule in enumerate(rules)])


def is_rule(rule, number):
    """Whether this can be the rule of that number."""
    if not isinstance(rule, tuple) or len(rule) != 2:
        return False
    first, second = rule
    return is_symbol(first, number) and is_symbol(second, number)


def is_row(row, count):
    """Whether this can be the row of a book with so many rules."""
    if not isinstance(row, list) or len(row) > LONGEST_ROW:
        return False
    return all([is_symbol(symbol, count) for symbol in row])


def is_symbol(symbol, limit):
    """Whether this is a sign, or a rule's number below the limit."""
    if isinstance(symbol, str):
        return len(symbol) == 1
    return is_whole(symbol) and 0 <= symbol < limit


def is_whole(number):
    """Whether this is a whole number."""
    # True and False pass for 1 and 0 in Python, but are no numbers here.
    return isinstance(number, int) and not isinstance(number, bool)


def is_sign(symbol):
    """Whether a symbol is a sign, and not the number of a rule."""
    return isinstance(symbol, str)


def lengths(book):
    """The length of each rule, as a list."""
    rules, _ = need_book(book)
    found = []
    for first, second in rules:
        found.append(symbol_length(first, found) + symbol_length(second, found))
    return found


def symbol_length(symbol, rule_lengths):
    """How many signs the symbol stands for."""
    return 1 if is_sign(symbol) else rule_lengths[symbol]


def length(book):
    """The length of the told text."""
    _, row = need_book(book)
    return symbols_length(row, lengths(book))


def symbols_length(symbols, rule_lengths):
    """How many signs the symbols stand for, one behind the other."""
    return sum([symbol_length(symbol, rule_lengths) for symbol in symbols])


def heights(rules):
    """The height of each rule, as a list."""
    found = []
    for first, second in rules:
        found.append(1 + max(symbol_height(first, found), symbol_height(second, found)))
    return found


def symbol_height(symbol, rule_heights):
    """The height of the symbol."""
    return 0 if is_sign(symbol) else rule_heights[symbol]


def depth(book):
    """The greatest height of a symbol in the book's row."""
    rules, row = need_book(book)
    rule_heights = heights(rules)
    return max([symbol_height(symbol, rule_heights) for symbol in row], default=0)


def uses(book):
    """How often each rule comes up while the whole text is written out, as a list."""
    rules, row = need_book(book)
    found = [0] * len(rules)
    add_uses(found, row, 1)
    # A rule is named by later rules only: from the last one down, the uses of a rule
    # are complete before they are handed on to the rules that it names.
    for number in reversed(range(len(rules))):
        add_uses(found, rules[number], found[number])
    return found


def add_uses(found, symbols, times):
    """Add to the uses found so far what the symbols bring, if they come up so many times."""
    for symbol in symbols:
        if not is_sign(symbol):
            found[symbol] += times


def written_out(book):
    """The told text, written out."""
    rules, row = need_book(book)
    signs = []
    # The symbols still to be written, the next one last. Only rules that come up are
    # looked at: another rule may stand for a text far too long to be written.
    waiting = row[::-1]
    while waiting:
        symbol = waiting.pop()
        if is_sign(symbol):
            signs.append(symbol)
        else:
            first, second = rules[symbol]
            waiting.append(second)
            waiting.append(first)
    return "".join(signs)
