"""Tests of pairrules.books: points 1 to 5 of the document."""

import copy
import unittest

from pairrules import books
from pairrules.errors import BookError, NoBook
from samples import SIGNS, book_text, chance_books, doubling, growing, no_books, slow_text, small_books

ASKED_OF_BOOKS = [
    books.need_book, books.lengths, books.length, books.depth, books.uses, books.written_out,
]

# The text abcabd, told with a rule for ab and one for abc.
PLAIN = ([("a", "b"), (0, "c")], [1, 0, "d"])


def slow_height(rules, symbol):
    if isinstance(symbol, str):
        return 0
    return 1 + max([slow_height(rules, part) for part in rules[symbol]])


def count_uses(rules, symbols, found):
    """Write the symbols out, one replacement at a time, and count each one."""
    for symbol in symbols:
        if not isinstance(symbol, str):
            found[symbol] += 1
            count_uses(rules, rules[symbol], found)


class NeedBookTest(unittest.TestCase):
    """Point 2: what a book is, and what is refused."""

    def accepted(self, book):
        self.assertIs(books.need_book(book), book)

    def refused(self, book):
        for ask in ASKED_OF_BOOKS:
            with self.subTest(ask=ask.__name__, book=repr(book)[:80]):
                with self.assertRaises(NoBook):
                    ask(book)

    def test_books_are_given_back_themselves(self):
        self.accepted(PLAIN)
        for book in chance_books(200):
            self.accepted(book)

    def test_no_rules_and_no_symbols(self):
        self.accepted(([], []))
        self.accepted(([], ["a", "b"]))
        self.accepted(([("a", "b")], []))

    def test_every_sign_is_a_symbol(self):
        self.accepted(([], list(SIGNS)))
        self.accepted(([(sign, sign) for sign in SIGNS], []))

    def test_equal_rules_and_repeated_pairs_make_no_difference(self):
        self.accepted(([("a", "b"), ("a", "b")], ["a", "b", "a", "b", 0, 0, 1]))

    def test_at_most_600_rules(self):
        self.accepted((doubling(600), [599]))
        self.accepted(([("a", "b")] * 600, []))
        self.refused((doubling(601), [599]))
        self.refused(([("a", "b")] * 601, []))

    def test_at_most_2000_symbols_in_the_row(self):
        self.accepted(([], ["a"] * 2000))
        self.accepted(([("a", "b")], [0] * 2000))
        self.refused(([], ["a"] * 2001))
        self.refused(([("a", "b")], [0] * 2001))

    def test_number_in_a_rule_is_below_its_own(self):
        for number in (0, 1, 5, 599):
            start = doubling(number) if number else []
            for limit_book in [(start + [(number, "a")], []), (start + [("a", number)], [])]:
                self.refused(limit_book)
            self.refused((start + [(number + 1, "a")], []))
            if number:
                self.accepted((start + [(number - 1, "a")], []))
                self.accepted((start + [("a", number - 1)], []))

    def test_number_in_a_rule_is_not_one_of_a_later_rule(self):
        self.refused(([("a", 1), ("a", "b")], []))
        self.refused(([("a", "b"), (2, "b"), ("c", "d")], [2]))

    def test_number_in_the_row_is_below_the_count_of_rules(self):
        for many in (1, 2, 600):
            self.accepted((doubling(many), ["a", many - 1, 0]))
            self.refused((doubling(many), ["a", many, 0]))
            self.refused((doubling(many), [many + 1]))
        self.refused(([], [0]))

    def test_numbers_below_0(self):
        self.refused(([("a", "b")], [-1]))
        self.refused(([("a", "b"), (-1, "a")], []))
        self.refused(([("a", "b"), ("a", -1)], []))

    def test_true_and_false_are_no_symbols(self):
        two = [("a", "b"), ("c", "d")]
        for wrong in (True, False):
            self.refused((two, [wrong]))
            self.refused((two + [(wrong, "a")], []))
            self.refused((two + [("a", wrong)], []))

    def test_text_of_no_or_of_two_signs_is_no_symbol(self):
        for wrong in ("", "ab", "00"):
            self.refused(([], [wrong]))
            self.refused(([(wrong, "a")], []))
            self.refused(([("a", wrong)], []))

    def test_what_is_no_book_is_refused_by_all(self):
        for book in no_books():
            self.refused(book)

    def test_no_book_is_a_refusal(self):
        with self.assertRaises(BookError):
            books.need_book(None)
        with self.assertRaises(ValueError):
            books.length("ab")


class TellingTest(unittest.TestCase):
    """Point 3: what symbols and books stand for, and how long that is."""

    def test_plain_book(self):
        self.assertEqual(books.written_out(PLAIN), "abcabd")
        self.assertEqual(books.lengths(PLAIN), [2, 3])
        self.assertEqual(books.length(PLAIN), 6)

    def test_first_symbol_stands_ahead_of_second(self):
        book = ([("a", "b"), ("c", 0), (1, 0)], ["<", 2, ">", 0])
        self.assertEqual(books.written_out(book), "<cabab>ab")
        self.assertEqual(books.lengths(book), [2, 3, 5])
        self.assertEqual(books.length(book), 9)

    def test_book_of_no_rules(self):
        self.assertEqual(books.written_out(([], ["a", "\n", " ", "'"])), "a\n '")
        self.assertEqual(books.lengths(([], ["a", "b"])), [])
        self.assertEqual(books.length(([], ["a", "b"])), 2)

    def test_row_of_no_symbols(self):
        for rules in ([], doubling(5)):
            self.assertEqual(books.written_out((rules, [])), "")
            self.assertEqual(books.length((rules, [])), 0)
        self.assertEqual(books.lengths((doubling(5), [])), [2, 4, 8, 16, 32])

    def test_figures_are_signs(self):
        book = ([("1", "0")], ["0", 0, "0"])
        self.assertEqual(books.written_out(book), "0100")
        self.assertEqual(books.length(book), 4)

    def test_every_sign_stands_for_itself(self):
        self.assertEqual(books.written_out(([], list(SIGNS))), "".join(SIGNS))

    def test_against_the_slow_way(self):
        for book in list(small_books()) + list(chance_books(300)):
            rules, _ = book
            text = book_text(book)
            self.assertEqual(books.written_out(book), text)
            self.assertEqual(books.length(book), len(text))
            self.assertEqual(books.lengths(book), [len(slow_text(rules, at)) for at in range(len(rules))])

    def test_text_too_long_to_write_out(self):
        book = (doubling(300), ["b", 299, 0])
        self.assertEqual(books.lengths(book), [2 ** (number + 1) for number in range(300)])
        self.assertEqual(books.length(book), 2 ** 300 + 3)
        book = (doubling(600), [599] * 2000)
        self.assertEqual(books.length(book), 2000 * 2 ** 600)

    def test_chain_of_600_rules(self):
        book = (growing(600), [599, 599])
        self.assertEqual(books.lengths(book), list(range(2, 602)))
        self.assertEqual(books.written_out(book), ("ab" + "c" * 599) * 2)
        turned = ([("a", "b")] + [("c", number) for number in range(599)], [599])
        self.assertEqual(books.written_out(turned), "c" * 599 + "ab")

    def test_100000_signs_are_written_out(self):
        book = (doubling(15), [14, 14, 14] + ["b"] * 1696)
        self.assertEqual(books.written_out(book), "a" * (3 * 2 ** 15) + "b" * 1696)
        self.assertEqual(books.length(book), 100000)

    def test_rules_that_never_come_up_are_not_written_out(self):
        self.assertEqual(books.written_out((doubling(600), ["b", 0, 1])), "baaaaaa")


class UsesTest(unittest.TestCase):
    """Point 4: how often each rule comes up."""

    def test_plain_book(self):
        self.assertEqual(books.uses(PLAIN), [2, 1])

    def test_no_rules_no_symbols_no_uses(self):
        self.assertEqual(books.uses(([], ["a"])), [])
        self.assertEqual(books.uses(([], [])), [])
        self.assertEqual(books.uses((doubling(3), [])), [0, 0, 0])
        self.assertEqual(books.uses((doubling(3), ["a", "b"])), [0, 0, 0])

    def test_rule_named_twice_by_one_rule(self):
        self.assertEqual(books.uses(([("a", "b"), (0, 0)], [1, 1, 0])), [5, 2])

    def test_unused_rule_brings_no_uses(self):
        self.assertEqual(books.uses(([("a", "b"), (0, 0), (1, 1)], [0, 0])), [2, 0, 0])

    def test_against_the_slow_way(self):
        for rules, row in list(small_books()) + list(chance_books(300)):
            found = [0] * len(rules)
            count_uses(rules, row, found)
            self.assertEqual(books.uses((rules, row)), found)

    def test_text_too_long_to_write_out(self):
        self.assertEqual(books.uses((doubling(300), [299])), [2 ** (299 - number) for number in range(300)])
        self.assertEqual(books.uses((doubling(600), [599] * 2000))[0], 2000 * 2 ** 599)


class DepthTest(unittest.TestCase):
    """Point 5: heights and the depth."""

    def test_plain_book(self):
        self.assertEqual(books.depth(PLAIN), 2)

    def test_nothing_in_the_row(self):
        self.assertEqual(books.depth(([], [])), 0)
        self.assertEqual(books.depth((doubling(9), [])), 0)

    def test_signs_alone_in_the_row(self):
        self.assertEqual(books.depth(([], ["a", "b"])), 0)
        self.assertEqual(books.depth((doubling(9), ["a", "b"])), 0)

    def test_only_the_rows_symbols_count(self):
        self.assertEqual(books.depth((doubling(9), ["a", 3, 0])), 4)
        self.assertEqual(books.depth(([("a", "b"), (0, "c"), ("d", "e")], [2])), 1)

    def test_greater_height_of_both_symbols(self):
        rules = [("a", "b"), (0, "c"), (1, 0), (0, 1), ("x", 2), (0, 0)]
        for number, height in enumerate([1, 2, 3, 3, 4, 2]):
            self.assertEqual(books.depth((rules, [number])), height)

    def test_against_the_slow_way(self):
        for rules, row in list(small_books()) + list(chance_books(300)):
            height = max([slow_height(rules, symbol) for symbol in row], default=0)
            self.assertEqual(books.depth((rules, row)), height)

    def test_text_too_long_to_write_out(self):
        self.assertEqual(books.depth((doubling(300), [299])), 300)
        self.assertEqual(books.depth((doubling(600), [0, 599, "a"])), 600)
        self.assertEqual(books.depth((growing(600), [599])), 600)


class NothingChangedTest(unittest.TestCase):
    """Point 1: what is handed in stays as it is, and what is told does not vary."""

    def test_the_book_stays_as_it_is(self):
        for book in [PLAIN, ([], []), (doubling(16), [15, "b", 3])] + list(chance_books(50)):
            before = copy.deepcopy(book)
            for ask in ASKED_OF_BOOKS:
                ask(book)
                self.assertEqual(book, before)

    def test_asked_again_the_same_is_told(self):
        for book in chance_books(50):
            for ask in ASKED_OF_BOOKS:
                self.assertEqual(ask(book), ask(copy.deepcopy(book)))

    def test_a_list_that_was_told_is_the_callers_own(self):
        for ask in (books.lengths, books.uses):
            told = ask(PLAIN)
            kept = list(told)
            told.append("x")
            self.assertEqual(ask(PLAIN), kept)


if __name__ == "__main__":
    unittest.main()
