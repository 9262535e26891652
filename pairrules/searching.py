"""Searching: where a word stands in the told text, which is not written out for it.

The told text is gone through from the left. The state in which a sign leaves the search
is how many of the word's first signs end there, as many as can be; where these are all
of them, the word ends there. What a symbol's text does to each state, its walk, is found
once for each symbol: that of a rule is the walk of its first symbol and behind it that of
its second one, however long its text is.
"""

from pairrules.books import is_sign, lengths, need_book, symbol_length
from pairrules.errors import NoWord

LONGEST_WORD = 200


def how_often(book, word):
    """How often the word stands in the told text."""
    _, row = need_book(book)
    need_word(word)
    walks = symbol_walks(book, word)
    state = 0
    found = 0
    for symbol in row:
        left_in, ended = walks[symbol]
        found += ended[state]
        state = left_in[state]
    return found


def first_place(book, word):
    """The least place where the word stands in the told text, or None."""
    rules, row = need_book(book)
    need_word(word)
    walks = symbol_walks(book, word)
    rule_lengths = lengths(book)
    # The symbols not yet passed, the next one last, and the place where its text begins.
    waiting = row[::-1]
    at = 0
    state = 0
    while waiting:
        symbol = waiting.pop()
        left_in, ended = walks[symbol]
        if ended[state] == 0:
            at += symbol_length(symbol, rule_lengths)
            state = left_in[state]
        elif is_sign(symbol):
            return at + 1 - len(word)
        else:
            first, second = rules[symbol]
            waiting.append(second)
            waiting.append(first)
    return None


def need_word(word):
    """NoWord if this is no text of 1 to 200 signs."""
    if not isinstance(word, str) or not 1 <= len(word) <= LONGEST_WORD:
        raise NoWord("this is no word of 1 to 200 signs")


def symbol_walks(book, word):
    """The walk of each symbol in the book, by the symbol.

    A walk is a tuple of two lists over the states: the state in which the symbol's text
    leaves the search, and how often the word ends within that text.
    """
    rules, row = book
    shorter = shorter_states(word)
    found = {}
    for symbols in [*rules, row]:
        for symbol in symbols:
            if is_sign(symbol) and symbol not in found:
                found[symbol] = sign_walk(symbol, word, shorter)
    for number, (first, second) in enumerate(rules):
        found[number] = joined_walk(found[first], found[second])
    return found


def shorter_states(word):
    """For each state, the greatest smaller one that the signs which led to it lead to as well."""
    found = [0, 0]
    for at in range(1, len(word)):
        state = found[at]
        while state > 0 and word[state] != word[at]:
            state = found[state]
        found.append(state + 1 if word[state] == word[at] else 0)
    return found


def sign_walk(sign, word, shorter):
    """The walk of the sign."""
    left_in = []
    for state in range(len(word) + 1):
        # Where the whole word has been read there is no further sign: the slice is empty.
        if word[state:state + 1] == sign:
            left_in.append(state + 1)
        elif state == 0:
            left_in.append(0)
        else:
            left_in.append(left_in[shorter[state]])
    return left_in, [1 if end == len(word) else 0 for end in left_in]


def joined_walk(first, second):
    """The walk of two symbols, one behind the other, of which these are the walks."""
    first_left_in, first_ended = first
    second_left_in, second_ended = second
    left_in = [second_left_in[state] for state in first_left_in]
    ended = [many + second_ended[state] for state, many in zip(first_left_in, first_ended)]
    return left_in, ended
