"""Books and texts that several of the tests go through."""

import itertools
import random

SIGNS = [chr(code) for code in range(32, 127) if chr(code) != "%"] + ["\n"]

# Values that are none of the listed kinds of whole, for wherever a book or a text is due.
JUNK = [None, True, False, 0, 1, -1, b"ab", [], {}, set(), (), ("a",), ["a"], [[], []], object()]

NO_SYMBOLS = ["", "ab", b"a", None, True, False, -1, 1.0, [], ("a", "a"), ["a"]]


def doubling(count):
    """Rules of which each one is twice as long as the one before it."""
    return [("a", "a")] + [(number, number) for number in range(count - 1)]


def growing(count):
    """Rules of which each one is one sign longer than the one before it."""
    return [("a", "b")] + [(number, "c") for number in range(count - 1)]


def no_books():
    """What is no book, for many different reasons."""
    good = [("a", "b"), (0, "c")]
    found = list(JUNK)
    found += ["", "ab", ([],), ([], [], []), [[], []], (good, [1], None), {"rules": [], "row": []}]
    found += [(tuple(good), [1]), (good, (1,)), (good, "ab"), (None, []), ([], None), ({}, []), ([], {})]
    found += [("", []), ([], ""), (0, 0), (iter(good), []), (good, iter([0]))]
    for rule in [(), ("a",), ("a", "b", "c"), ["a", "b"], "ab", None, 0, True, {"a": "b"}]:
        found += [([rule], []), ([("a", "b"), rule], [0]), ([rule, ("a", "b")], [])]
    for symbol in NO_SYMBOLS + [2, 3, 10 ** 30, -(10 ** 30)]:
        found += [(good, [symbol]), (good, ["a", 0, symbol]), (good, [symbol, 1, "b"])]
        found += [(good + [(symbol, "a")], []), (good + [("a", symbol)], [])]
        found += [([(symbol, "a")], []), ([("a", symbol)], []), ([("a", "a"), ("b", symbol)], [])]
    found += [([(0, "a")], []), ([("a", 0)], []), ([("a", "b"), (1, "a")], []), ([("a", "b"), ("a", 1)], [])]
    found += [([(1, "a"), ("a", "b")], [0]), ([], [0]), ([("a", "b")], [1])]
    found += [(doubling(601), []), ([], ["a"] * 2001), (doubling(601), ["a"] * 2001)]
    return found


def small_books():
    """All books of two rules and at most two symbols in the row, over two signs."""
    first_rules = list(itertools.product(["a", "b"], repeat=2))
    second_rules = list(itertools.product(["a", "b", 0], repeat=2))
    rows = [list(row) for many in range(3) for row in itertools.product(["a", 0, 1], repeat=many)]
    for first, second, row in itertools.product(first_rules, second_rules, rows):
        yield [first, second], row


def chance_books(many):
    """Books of up to 12 rules that are not ordered by any plan, always the same ones."""
    chance = random.Random(20261119)
    for _ in range(many):
        rules = []
        for number in range(chance.randrange(13)):
            choice = list("abc\n 0") + list(range(number))
            rules.append((chance.choice(choice), chance.choice(choice)))
        choice = list("abc\n 0") + list(range(len(rules)))
        yield rules, [chance.choice(choice) for _ in range(chance.randrange(9))]


def small_texts():
    """All texts of at most 9 signs over two signs, and of at most 6 over three."""
    for signs, longest in (("ab", 9), ("abc", 6)):
        for many in range(longest + 1):
            for text in itertools.product(signs, repeat=many):
                yield "".join(text)


def long_texts():
    """Some longer texts, up to the 1000 signs that are allowed, always the same ones."""
    chance = random.Random(7)
    for many, signs in [(60, "ab"), (200, "ab"), (200, "abc"), (1000, "ab"), (1000, "abcdefgh"), (1000, SIGNS)]:
        yield "".join([chance.choice(signs) for _ in range(many)])
    yield "a" * 999
    yield "a" * 1000
    yield ("the quick fox\nand the quick dog\n" * 40)[:1000]
    yield "".join(SIGNS)
    yield "".join(SIGNS * 2)
    yield "0 1 '0' '1' 00 01 10 11\n" * 20


def slow_text(rules, symbol):
    """What the symbol stands for, written out as point 3 tells it."""
    if isinstance(symbol, str):
        return symbol
    return "".join([slow_text(rules, part) for part in rules[symbol]])


def book_text(book):
    """The text that the book tells."""
    rules, row = book
    return "".join([slow_text(rules, symbol) for symbol in row])


def fibonacci(count):
    """Rules of which each one stands for the texts of the two before it: ab, aba, abaab .."""
    return [("a", "b"), (0, "a")] + [(number + 1, number) for number in range(count - 2)]


def great_book(rule_count, row_count, signs):
    """A book of so many rules, most of them of one just before, and symbols, always the same."""
    chance = random.Random(rule_count * 10000 + row_count)
    rules = [(signs[0], signs[-1])]
    for number in range(1, rule_count):
        late = chance.randrange(max(0, number - 8), number)
        rules.append(chance.choice([(late, chance.choice(signs)), (chance.choice(signs), late), (late, number - 1)]))
    choice = list(signs) + list(range(rule_count))
    return rules, [chance.choice(choice) for _ in range(row_count)]
