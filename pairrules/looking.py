"""Looking: signs of the told text, found by opening no rules but those that lead there.

To open a rule is to look at its two symbols. The lengths of rules tell, without opening
them, which places their texts have.
"""

from pairrules.books import is_sign, is_whole, lengths, need_book, symbol_length, symbols_length
from pairrules.errors import NoPlace


def sign_at(book, place):
    """The sign at the place, and the list of the rules that were opened, in order."""
    rules, row = need_book(book)
    rule_lengths = lengths(book)
    need_place(place, symbols_length(row, rule_lengths) - 1)
    symbol, within = symbol_with(row, place, rule_lengths)
    opened = []
    while not is_sign(symbol):
        opened.append(symbol)
        symbol, within = symbol_with(rules[symbol], within, rule_lengths)
    return symbol, opened


def symbol_with(symbols, place, rule_lengths):
    """The symbol in whose text the place of the symbols' text lies, and the place within it."""
    at = 0
    within = place
    while within >= symbol_length(symbols[at], rule_lengths):
        within -= symbol_length(symbols[at], rule_lengths)
        at += 1
    return symbols[at], within


def cut(book, start, end):
    """The text from start up to, and without, end, and how many times a rule was opened."""
    rules, row = need_book(book)
    rule_lengths = lengths(book)
    need_stretch(start, end, symbols_length(row, rule_lengths))
    signs = []
    opened = 0
    # The symbols not yet passed, the next one last, and the place where its text begins.
    waiting = row[::-1]
    at = 0
    while at < end:
        symbol = waiting.pop()
        after = at + symbol_length(symbol, rule_lengths)
        # An empty stretch has no place, so not even a rule around it is opened for it.
        if max(at, start) >= min(after, end):
            at = after
        elif is_sign(symbol):
            signs.append(symbol)
            at = after
        else:
            first, second = rules[symbol]
            waiting.append(second)
            waiting.append(first)
            opened += 1
    return "".join(signs), opened


def need_place(place, greatest):
    """NoPlace if this is no whole number from 0 to the greatest one."""
    if not is_whole(place) or not 0 <= place <= greatest:
        raise NoPlace("this is no place of the told text")


def need_stretch(start, end, text_length):
    """NoPlace if the text of that length has no stretch from start up to end."""
    need_place(start, text_length)
    need_place(end, text_length)
    if start > end:
        raise NoPlace("the stretch starts beyond its end")
