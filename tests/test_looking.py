"""Tests of pairrules.looking: points 1, 2, 8 and 9 of the document."""

import copy
import unittest

from pairrules.books import depth, length
from pairrules.errors import BookError, NoBook, NoPlace
from pairrules.looking import cut, sign_at
from samples import SIGNS, book_text, chance_books, doubling, fibonacci, great_book, growing, no_books
from samples import slow_text, small_books

# The text abcabd, told with a rule for ab and one for abc.
PLAIN = ([("a", "b"), (0, "c")], [1, 0, "d"])

NO_PLACES = [True, False, None, "", "0", "a", b"0", 0.0, 1.0, -1, -(2 ** 300), [], [0], (0,), {}, object()]


def slow_openings(rules, symbols, place):
    """The rules that lead to the place of the symbols' text, in order."""
    for symbol in symbols:
        text = slow_text(rules, symbol)
        if place < len(text):
            if isinstance(symbol, str):
                return []
            return [symbol] + slow_openings(rules, rules[symbol], place)
        place -= len(text)
    raise AssertionError("no such place")


def slow_count(rules, symbols, start, end, at=0):
    """How many times a rule comes up, among the symbols from a place on, with a place of the stretch."""
    found = 0
    for symbol in symbols:
        many = len(slow_text(rules, symbol))
        if not isinstance(symbol, str) and any(start <= place < end for place in range(at, at + many)):
            found += 1 + slow_count(rules, rules[symbol], start, end, at)
        at += many
    return found


def sampled_books():
    """Books whose texts can be written out, of many kinds, and not too many of them."""
    for number, book in enumerate(small_books()):
        if number % 7 == 0:
            yield book
    for book in chance_books(150):
        if length(book) <= 60:
            yield book
    yield fibonacci(7), [6, "x", 3]
    yield doubling(5), ["b", 4, "b", 2]
    yield growing(9), [8, 3]


class SignAtTest(unittest.TestCase):
    """Point 8: the sign at a place, and the rules that lead there."""

    def test_plain_book(self):
        told = [sign_at(PLAIN, place) for place in range(6)]
        self.assertEqual(told, [("a", [1, 0]), ("b", [1, 0]), ("c", [1]), ("a", [0]), ("b", [0]), ("d", [])])

    def test_first_and_last_place_and_just_beyond(self):
        book = ([("a", "b"), ("c", 0), (1, 0)], ["<", 2, 2])
        self.assertEqual(sign_at(book, 0), ("<", []))
        self.assertEqual(sign_at(book, 1), ("c", [2, 1]))
        self.assertEqual(sign_at(book, 10), ("b", [2, 0]))
        for place in (11, 12, 2 ** 300, -1):
            with self.assertRaises(NoPlace):
                sign_at(book, place)

    def test_rules_are_told_from_the_row_down(self):
        self.assertEqual(sign_at((doubling(4), [3, "b"]), 9), ("a", [3, 2, 1, 0]))
        self.assertEqual(sign_at((growing(5), ["x", 4]), 6), ("c", [4]))
        self.assertEqual(sign_at((growing(5), ["x", 4]), 1), ("a", [4, 3, 2, 1, 0]))

    def test_book_of_no_rules(self):
        book = ([], list(SIGNS))
        for place, sign in enumerate(SIGNS):
            self.assertEqual(sign_at(book, place), (sign, []))
        with self.assertRaises(NoPlace):
            sign_at(book, len(SIGNS))

    def test_row_of_no_symbols_has_no_place(self):
        for rules in ([], doubling(5)):
            for place in (0, 1, -1):
                with self.assertRaises(NoPlace):
                    sign_at((rules, []), place)

    def test_against_the_slow_way(self):
        for book in sampled_books():
            rules, row = book
            for place, sign in enumerate(book_text(book)):
                self.assertEqual(sign_at(book, place), (sign, slow_openings(rules, row, place)))

    def test_no_more_rules_are_opened_than_the_book_is_deep(self):
        for book in sampled_books():
            deep = depth(book)
            opened = [len(sign_at(book, place)[1]) for place in range(length(book))]
            self.assertLessEqual(max(opened, default=0), deep)
        book = great_book(600, 2000, "abc")
        for part in range(50):
            _, opened = sign_at(book, (length(book) - 1) * part // 49)
            self.assertLessEqual(len(opened), depth(book))

    def test_text_of_2_to_the_300_signs(self):
        book = (doubling(299) + [(298, 298)], [299])
        self.assertEqual(length(book), 2 ** 300)
        down = list(range(299, -1, -1))
        for place in (0, 1, 2 ** 299 - 1, 2 ** 299, 2 ** 300 - 1):
            self.assertEqual(sign_at(book, place), ("a", down))
        with self.assertRaises(NoPlace):
            sign_at(book, 2 ** 300)

    def test_one_sign_far_within_a_long_text(self):
        # The only b stands behind 2 ** 299 signs, one level of many down.
        book = (doubling(299) + [("b", 298), (298, 299)], [300, 298])
        self.assertEqual(sign_at(book, 2 ** 299), ("b", [300, 299]))
        self.assertEqual(sign_at(book, 2 ** 299 - 1), ("a", [300] + list(range(298, -1, -1))))
        self.assertEqual(sign_at(book, 2 ** 299 + 1), ("a", [300, 299] + list(range(298, -1, -1))))
        self.assertEqual(sign_at(book, 3 * 2 ** 299), ("a", list(range(298, -1, -1))))

    def test_600_rules_and_2000_symbols(self):
        book = (doubling(600), ["b"] * 1999 + [599])
        self.assertEqual(sign_at(book, 1998), ("b", []))
        self.assertEqual(sign_at(book, 1999), ("a", list(range(599, -1, -1))))
        self.assertEqual(sign_at(book, 1998 + 2 ** 600), ("a", list(range(599, -1, -1))))
        with self.assertRaises(NoPlace):
            sign_at(book, 1999 + 2 ** 600)

    def test_what_is_no_place(self):
        for place in NO_PLACES:
            with self.subTest(place=repr(place)), self.assertRaises(NoPlace):
                sign_at(PLAIN, place)

    def test_kinds_of_the_answer(self):
        for place in (0, 5):
            told = sign_at(PLAIN, place)
            self.assertEqual([type(part) for part in (told, *told)], [tuple, str, list])


class CutTest(unittest.TestCase):
    """Point 9: a stretch, and how many times a rule was opened for it."""

    def test_plain_book(self):
        self.assertEqual(cut(PLAIN, 0, 6), ("abcabd", 3))
        self.assertEqual(cut(PLAIN, 1, 3), ("bc", 2))
        self.assertEqual(cut(PLAIN, 2, 4), ("ca", 2))
        self.assertEqual(cut(PLAIN, 2, 3), ("c", 1))
        self.assertEqual(cut(PLAIN, 4, 6), ("bd", 1))
        self.assertEqual(cut(PLAIN, 5, 6), ("d", 0))

    def test_empty_stretch_opens_none(self):
        for place in range(7):
            self.assertEqual(cut(PLAIN, place, place), ("", 0))
        book = (doubling(300), [299])
        for place in (0, 1, 2, 2 ** 299, 2 ** 300 - 1, 2 ** 300):
            self.assertEqual(cut(book, place, place), ("", 0))

    def test_empty_text(self):
        for rules in ([], doubling(5)):
            self.assertEqual(cut((rules, []), 0, 0), ("", 0))
            for start, end in [(0, 1), (1, 1), (1, 0), (-1, 0)]:
                with self.assertRaises(NoPlace):
                    cut((rules, []), start, end)

    def test_each_time_that_a_rule_comes_up_counts(self):
        self.assertEqual(cut((doubling(3), [2]), 0, 8), ("a" * 8, 7))
        self.assertEqual(cut((doubling(3), [2, 2]), 0, 16), ("a" * 16, 14))
        self.assertEqual(cut((doubling(3), [2, 2]), 7, 9), ("aa", 6))

    def test_rules_without_a_place_of_the_stretch_stay_shut(self):
        book = ([("a", "b"), ("c", "d"), (0, 1), ("e", "f")], [2, 3, 2])
        self.assertEqual(cut(book, 0, 2), ("ab", 2))
        self.assertEqual(cut(book, 2, 4), ("cd", 2))
        self.assertEqual(cut(book, 1, 3), ("bc", 3))
        self.assertEqual(cut(book, 4, 6), ("ef", 1))
        self.assertEqual(cut(book, 3, 7), ("defa", 5))

    def test_book_of_no_rules(self):
        book = ([], list(SIGNS))
        self.assertEqual(cut(book, 0, len(SIGNS)), ("".join(SIGNS), 0))
        self.assertEqual(cut(book, 3, 9), ("".join(SIGNS[3:9]), 0))

    def test_against_the_slow_way(self):
        for book in sampled_books():
            rules, row = book
            text = book_text(book)
            step = 1 if len(text) <= 12 else 5
            for start in range(0, len(text) + 1, step):
                for end in range(start, len(text) + 1):
                    self.assertEqual(cut(book, start, end), (text[start:end], slow_count(rules, row, start, end)))

    def test_the_whole_text_opens_all_uses(self):
        for book in sampled_books():
            rules, row = book
            text = book_text(book)
            self.assertEqual(cut(book, 0, len(text)), (text, slow_count(rules, row, 0, len(text))))

    def test_no_more_than_signs_and_two_for_each_step_of_depth(self):
        book = (fibonacci(400), [399, 398])
        for start in (0, 1, 10 ** 20, 10 ** 50 + 7, length(book) - 40):
            for many in (1, 2, 7, 40):
                text, opened = cut(book, start, start + many)
                self.assertEqual(len(text), many)
                self.assertLessEqual(opened, many + 2 * depth(book))

    def test_stretch_of_a_text_of_2_to_the_300_signs(self):
        book = (doubling(299) + [("b", 298), (298, 299)], [300, 298])
        place = 2 ** 299
        self.assertEqual(cut(book, place - 2, place + 3), ("aabaa", 2 + 299 + 299))
        self.assertEqual(cut(book, place, place + 1), ("b", 2))
        self.assertEqual(cut(book, 3 * place, 3 * place + 1), ("a", 299))
        for start, end in [(0, 3 * place + 2), (3 * place + 2, 3 * place + 2)]:
            with self.assertRaises(NoPlace):
                cut(book, start, end)

    def test_stretch_of_10000_signs(self):
        text, opened = cut((doubling(600), ["b", 599]), 0, 10000)
        self.assertEqual(text, "b" + "a" * 9999)
        self.assertLessEqual(opened, 10000 + 2 * 600)

    def test_what_is_no_place(self):
        for place in NO_PLACES + [7, 2 ** 300]:
            with self.subTest(place=repr(place)):
                for start, end in [(place, 6), (0, place), (place, place)]:
                    with self.assertRaises(NoPlace):
                        cut(PLAIN, start, end)

    def test_start_beyond_the_end(self):
        for start, end in [(1, 0), (6, 0), (6, 5), (4, 3)]:
            with self.assertRaises(NoPlace):
                cut(PLAIN, start, end)

    def test_kinds_of_the_answer(self):
        for start, end in [(0, 0), (1, 5)]:
            told = cut(PLAIN, start, end)
            self.assertEqual([type(part) for part in (told, *told)], [tuple, str, int])


class RefusalTest(unittest.TestCase):
    """Points 1 and 2: no book is refused ahead of all else, and nothing is changed."""

    def test_no_book_is_refused_ahead_of_no_place(self):
        for book in no_books():
            with self.subTest(book=repr(book)[:80]):
                for place in (0, -1, True, None, 2 ** 300):
                    with self.assertRaises(NoBook):
                        sign_at(book, place)
                for start, end in [(0, 0), (0, 1), (2, 1), (True, 1), (None, None)]:
                    with self.assertRaises(NoBook):
                        cut(book, start, end)

    def test_no_place_is_a_refusal(self):
        for ask in (lambda: sign_at(PLAIN, 6), lambda: cut(PLAIN, 0, 7)):
            with self.assertRaises(BookError):
                ask()

    def test_the_book_stays_as_it_is(self):
        for book in [PLAIN, (doubling(9), [8, "b", 3])] + [book for book in chance_books(40) if length(book)]:
            before = copy.deepcopy(book)
            told = [sign_at(book, 0), cut(book, 0, min(length(book), 500))]
            self.assertEqual(book, before)
            self.assertEqual(told, [sign_at(book, 0), cut(book, 0, min(length(book), 500))])

    def test_the_list_of_rules_is_the_callers_own(self):
        sign_at(PLAIN, 0)[1].append("x")
        self.assertEqual(sign_at(PLAIN, 0), ("a", [1, 0]))


if __name__ == "__main__":
    unittest.main()
