"""Tests of pairrules.searching: points 1, 2 and 10 of the document."""

import copy
import itertools
import unittest

from pairrules.books import length
from pairrules.errors import BookError, NoBook, NoWord
from pairrules.looking import cut
from pairrules.searching import first_place, how_often
from samples import JUNK, SIGNS, book_text, chance_books, doubling, fibonacci, great_book, growing, no_books
from samples import small_books

# The text abcabd, told with a rule for ab and one for abc.
PLAIN = ([("a", "b"), (0, "c")], [1, 0, "d"])


def slow_places(text, word):
    """All places where the text has the word's signs from there on."""
    return [at for at in range(len(text) - len(word) + 1) if text[at:at + len(word)] == word]


def joined(one, other, word):
    """What is known of two parts of a text, one behind the other: count, least place, length, both ends."""
    reach = len(word) - 1
    tail, head = one[3][max(0, len(one[3]) - reach):], other[2][:reach]
    begin = one[4] - len(tail)
    across = [at for at in slow_places(tail + head, word) if at < len(tail) < at + len(word)]
    places = [part for part in (one[1], other[1] if other[1] is None else one[4] + other[1]) if part is not None]
    places += [begin + at for at in across]
    first = (one[2] + other[2])[:reach] if one[4] < reach else one[2]
    last = (one[3] + other[3])[max(0, len(one[3] + other[3]) - reach):] if other[4] < reach else other[3]
    return one[0] + other[0] + len(across), min(places, default=None), first, last, one[4] + other[4]


def edges_told(book, word):
    """How often and where first, found from both ends of each rule's text alone."""
    def known(symbol):
        if not isinstance(symbol, str):
            return found[symbol]
        return (1, 0, symbol, symbol, 1) if symbol == word else (0, None, symbol, symbol, 1)
    found = []
    for first, second in book[0]:
        found.append(joined(known(first), known(second), word))
    whole = (0, None, "", "", 0)
    for symbol in book[1]:
        whole = joined(whole, known(symbol), word)
    return whole[0], whole[1]


class SearchTest(unittest.TestCase):
    """Point 10: how often a word stands in the told text, and where first."""

    def told(self, book, word, many, place):
        self.assertEqual(how_often(book, word), many, (repr(book)[:80], word[:80]))
        self.assertEqual(first_place(book, word), place, (repr(book)[:80], word[:80]))

    def test_plain_book(self):
        self.told(PLAIN, "a", 2, 0)
        self.told(PLAIN, "d", 1, 5)
        self.told(PLAIN, "ab", 2, 0)
        self.told(PLAIN, "abd", 1, 3)
        self.told(PLAIN, "ca", 1, 2)
        self.told(PLAIN, "abcabd", 1, 0)
        self.told(PLAIN, "x", 0, None)
        self.told(PLAIN, "ba", 0, None)

    def test_places_may_share_signs(self):
        self.told(([], list("aaaa")), "aa", 3, 0)
        self.told(([("a", "a"), (0, 0)], ["b", 1]), "aaa", 2, 1)
        self.told(([("a", "b")], [0, 0, 0, "a"]), "aba", 3, 0)
        self.told(([("a", "b")], [0, 0, 0, "a"]), "abab", 2, 0)

    def test_a_try_that_fails_may_hold_the_beginning(self):
        self.told(([], list("aaab")), "aab", 1, 1)
        self.told(([("a", "b"), (0, "a")], [1, "b", 1, "c"]), "abac", 1, 4)
        self.told(([], list("abababac")), "ababac", 1, 2)
        self.told(([], list("aabaabaaab")), "aabaaab", 1, 3)

    def test_word_across_several_symbols_of_the_row(self):
        book = ([("a", "b"), ("c", "d")], ["x", 0, 1, "e", 0, 1, "y"])
        self.told(book, "xabcdeabcdy", 1, 0)
        self.told(book, "bcdea", 1, 2)
        self.told(book, "bc", 2, 2)
        self.told(book, "dea", 1, 4)
        self.told(book, "cdy", 1, 8)

    def test_word_longer_than_the_text(self):
        self.told(PLAIN, "abcabda", 0, None)
        self.told(PLAIN, "a" * 200, 0, None)
        self.told(([], ["a"]), "aa", 0, None)

    def test_no_text_has_no_word(self):
        for rules in ([], doubling(300)):
            for word in ("a", "aa", "a" * 200):
                self.told((rules, []), word, 0, None)

    def test_rules_that_never_come_up_have_no_say(self):
        self.told((doubling(300), ["b", 0]), "a", 2, 1)
        self.told((doubling(300), ["b"]), "a", 0, None)
        self.told(([("a", "b"), (0, 0)], ["b", "a", "c"]), "ab", 0, None)

    def test_figures_are_signs(self):
        self.told(([("1", "0")], ["0", 0, "0"]), "0", 3, 0)
        self.told(([("1", "0")], ["0", 0, "0"]), "10", 1, 1)

    def test_all_signs_are_sought(self):
        book = ([], list(SIGNS) * 2)
        for place, sign in enumerate(SIGNS):
            self.told(book, sign, 2, place)
        self.told(book, "~\n !", 1, len(SIGNS) - 2)
        self.told(book, "".join(SIGNS), 2, 0)

    def test_word_of_200_signs(self):
        self.told((doubling(8), [7]), "a" * 200, 57, 0)
        self.told((growing(300), ["b", 299]), "c" * 200, 100, 3)
        self.told((growing(300), [299, 299]), "c" * 198 + "ab", 1, 103)
        self.told(([], list("ab" * 110)), "ab" * 100, 11, 0)
        self.told(([], list("ab" * 110)), "ba" * 100, 10, 1)
        self.told(([], ["a"] * 199), "a" * 200, 0, None)
        self.told(([], ["a"] * 200), "a" * 200, 1, 0)

    def test_every_word_of_small_books(self):
        words = ["".join(word) for many in range(1, 5) for word in itertools.product("ab", repeat=many)]
        for book in small_books():
            text = book_text(book)
            for word in words:
                places = slow_places(text, word)
                self.told(book, word, len(places), places[0] if places else None)

    def test_every_stretch_is_found(self):
        books = [book for book in chance_books(120) if 1 <= length(book) <= 300]
        books += [(fibonacci(8), [7, "x", 6, "a"]), (growing(12), [11, 4, 11])]
        for book in books:
            text = book_text(book)
            for start, many in itertools.product(range(0, len(text), 7), (1, 2, 3, 5, 17, 60, 200)):
                word = text[start:start + many]
                for sought in (word, word[1:] + "a", word[:-1] + "\n"):
                    if sought:
                        places = slow_places(text, sought)
                        self.told(book, sought, len(places), places[0] if places else None)

    def test_text_of_2_to_the_300_signs(self):
        book = (doubling(300), [299])
        self.assertEqual(length(book), 2 ** 300)
        for many in (1, 2, 3, 199, 200):
            self.told(book, "a" * many, 2 ** 300 - many + 1, 0)
            self.told(book, "a" * (many - 1) + "b", 0, None)

    def test_least_place_far_within_a_long_text(self):
        book = (doubling(299) + [("b", 298), (298, 299)], [300, 300, "c"])
        place = 2 ** 299
        self.told(book, "b", 2, place)
        self.told(book, "a" * 100 + "b" + "a" * 99, 2, place - 100)
        self.told(book, "ba", 2, place)
        self.told(book, "a" * 199 + "c", 1, 4 * place + 2 - 199)
        self.told(book, "c", 1, 4 * place + 2)
        self.told(book, "a" * 200, 4 * place - 3 * 199, 0)

    def test_long_texts_against_both_ends_of_rules(self):
        books = [(fibonacci(450), [449, "a", 448, 3]), great_book(300, 40, "ab"), great_book(500, 300, "abc")]
        for book in books:
            end = length(book)
            self.assertGreater(end, 2 ** 30)
            words = ["a", "b", "ab", "aa", "bb", "aab", "abaab", "a" * 200, "ab" * 100]
            for start in (0, 1, end // 3, end // 2, 2 * end // 3, end - 200):
                words += [cut(book, start, start + many)[0] for many in (1, 4, 30, 200)]
            for word in words:
                many, place = edges_told(book, word)
                self.told(book, word, many, place)

    def test_600_rules_and_2000_symbols(self):
        self.told((doubling(600), [599] * 2000), "a" * 200, 2000 * 2 ** 600 - 199, 0)
        book = (doubling(600), ["b"] + [599] * 1998 + ["c"])
        self.told(book, "a" * 199 + "c", 1, 1998 * 2 ** 600 + 1 - 199)
        book = great_book(600, 2000, "abcd")
        word, _ = cut(book, length(book) // 2, length(book) // 2 + 200)
        many, place = edges_told(book, word)
        self.assertGreater(many, 0)
        self.told(book, word, many, place)

    def test_chain_of_600_rules(self):
        turned = ([("a", "b")] + [("c", number) for number in range(599)], [599, 599])
        self.told(turned, "cab", 2, 598)
        self.told(turned, "c" * 200, 800, 0)
        self.told((growing(600), [599, 599]), "ca", 1, 600)


class RefusalTest(unittest.TestCase):
    """Points 1, 2 and 10: what is no book and what is no word, and nothing is changed."""

    def test_what_is_no_word(self):
        for word in JUNK + ["", "a" * 201, "ab" * 200, b"", b"a", ["a"], ("a", "b"), 1.0]:
            for ask in (how_often, first_place):
                for book in (PLAIN, ([], []), (doubling(300), [299])):
                    with self.subTest(word=repr(word)[:80]), self.assertRaises(NoWord):
                        ask(book, word)

    def test_no_book_is_refused_ahead_of_no_word(self):
        for book in no_books():
            for word in ("a", "", "a" * 201, None):
                for ask in (how_often, first_place):
                    with self.subTest(book=repr(book)[:80]), self.assertRaises(NoBook):
                        ask(book, word)

    def test_no_word_is_a_refusal(self):
        for ask in (how_often, first_place):
            with self.assertRaises(BookError):
                ask(PLAIN, "")

    def test_the_book_stays_as_it_is(self):
        for book in [PLAIN, (doubling(300), [299, "b"])] + list(chance_books(40)):
            before = copy.deepcopy(book)
            told = [(how_often(book, word), first_place(book, word)) for word in ("a", "ab", " 0")]
            self.assertEqual(book, before)
            again = [(how_often(before, word), first_place(before, word)) for word in ("a", "ab", " 0")]
            self.assertEqual(again, told)

    def test_kinds_of_the_answers(self):
        for word in ("a", "x"):
            self.assertIs(type(how_often(PLAIN, word)), int)
        self.assertIs(type(first_place(PLAIN, "a")), int)
        self.assertIs(first_place(PLAIN, "x"), None)


if __name__ == "__main__":
    unittest.main()
