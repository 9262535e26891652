"""Tests of pairrules.making: points 1, 6 and 7 of the document."""

import unittest

from pairrules.books import need_book, uses, written_out
from pairrules.errors import BookError, NoText
from pairrules.making import made
from samples import JUNK, SIGNS, long_texts, small_texts


def standings(row, pair):
    """How often the pair stands in the row, counted from the left, each symbol used once."""
    at = found = 0
    while at + 1 < len(row):
        if (row[at], row[at + 1]) == pair:
            found += 1
            at += 1
        at += 1
    return found


def slow_made(text):
    """The book, made word by word as the document tells it."""
    rules, row = [], list(text)
    while True:
        pairs = list(zip(row, row[1:]))
        counts = [standings(row, pair) for pair in pairs]
        if max(counts, default=0) < 2:
            return rules, row
        taken = pairs[counts.index(max(counts))]
        fresh = []
        while row:
            if tuple(row[:2]) == taken:
                fresh.append(len(rules))
                row = row[2:]
            else:
                fresh.append(row[0])
                row = row[1:]
        rules.append(taken)
        row = fresh


class MakingTest(unittest.TestCase):
    """Point 6: how a text is made into a book."""

    def test_text_of_no_signs(self):
        self.assertEqual(made(""), ([], []))

    def test_no_pair_stands_twice(self):
        for text in ("a", "ab", "aa", "aba", "abc", "abcd"):
            self.assertEqual(made(text), ([], list(text)))

    def test_aaa_has_its_pair_once_and_aaaa_twice(self):
        self.assertEqual(made("aaa"), ([], ["a", "a", "a"]))
        self.assertEqual(made("aaaa"), ([("a", "a")], [0, 0]))

    def test_runs_of_one_sign(self):
        self.assertEqual(made("aaaaa"), ([("a", "a")], [0, 0, "a"]))
        self.assertEqual(made("aaaaaa"), ([("a", "a")], [0, 0, 0]))
        self.assertEqual(made("aaaaaaaa"), ([("a", "a"), (0, 0)], [1, 1]))

    def test_a_rule_of_signs_and_a_rule_of_a_rule(self):
        self.assertEqual(made("abab"), ([("a", "b")], [0, 0]))
        self.assertEqual(made("abcabc"), ([("a", "b"), (0, "c")], [1, 1]))
        self.assertEqual(made("cabcab"), ([("c", "a"), (0, "b")], [1, 1]))

    def test_the_pair_that_stands_most_often_is_taken(self):
        self.assertEqual(made("cdcdababab"), ([("a", "b"), ("c", "d")], [1, 1, 0, 0, 0]))
        self.assertEqual(made("xyXxyYabZabzab")[0], [("a", "b"), ("x", "y")])

    def test_of_several_pairs_the_leftmost_is_taken(self):
        self.assertEqual(made("cdabXabYcd"), ([("c", "d"), ("a", "b")], [0, 1, "X", 1, "Y", 0]))
        self.assertEqual(made("abcdXcdYab"), ([("a", "b"), ("c", "d")], [0, 1, "X", 1, "Y", 0]))
        self.assertEqual(made("zyXbaYbaXzy")[0], [("z", "y"), ("b", "a")])
        self.assertEqual(made("abcXabc"), ([("a", "b"), (0, "c")], [1, "X", 1]))

    def test_symbols_that_pairs_share_count_for_each_pair(self):
        # ba stands there twice, but ab three times.
        self.assertEqual(made("ababab"), ([("a", "b")], [0, 0, 0]))
        self.assertEqual(made("babab"), ([("b", "a")], [0, 0, "b"]))

    def test_a_symbol_is_used_once_in_counting(self):
        # Counted at every place, aa would stand there twice, and first.
        self.assertEqual(made("aaabab"), ([("a", "b")], ["a", "a", 0, 0]))
        self.assertEqual(made("aaaXababa"), ([("a", "b")], ["a", "a", "a", "X", 0, 0, "a"]))

    def test_replacing_goes_from_the_left(self):
        self.assertEqual(made("aaabaaab"), ([("a", "a"), (0, "a"), (1, "b")], [2, 2]))
        self.assertEqual(made("baaacaaa"), ([("a", "a"), (0, "a")], ["b", 1, "c", 1]))
        self.assertEqual(made("aaaXaaY"), ([("a", "a")], [0, "a", "X", 0, "Y"]))

    def test_figures_are_signs_and_no_numbers(self):
        self.assertEqual(made("0101"), ([("0", "1")], [0, 0]))
        self.assertEqual(made("ab0ab0"), ([("a", "b"), (0, "0")], [1, 1]))
        self.assertEqual(made("abab0"), ([("a", "b")], [0, 0, "0"]))

    def test_blanks_and_line_ends_are_signs(self):
        self.assertEqual(made(" \n \n"), ([(" ", "\n")], [0, 0]))
        self.assertEqual(made("".join(SIGNS)), ([], SIGNS))

    def test_against_the_slow_way(self):
        for text in small_texts():
            self.assertEqual(made(text), slow_made(text), text)

    def test_long_texts_against_the_slow_way(self):
        for text in long_texts():
            if len(text) <= 200:
                self.assertEqual(made(text), slow_made(text), text)

    def test_at_most_1000_signs(self):
        for text in ("a" * 1000, "ab" * 500, "ab\n" * 333 + "c"):
            self.assertEqual(written_out(made(text)), text)
        for text in ("a" * 1001, "ab" * 500 + "c", "\n" * 1001, "a" * 5000):
            with self.assertRaises(NoText):
                made(text)

    def test_what_is_no_text(self):
        for thing in JUNK + [b"", 5, list("abab"), tuple("abab"), ([], [])]:
            with self.subTest(thing=repr(thing)), self.assertRaises(NoText):
                made(thing)

    def test_no_text_is_a_refusal(self):
        with self.assertRaises(BookError):
            made(None)


class MadeBookTest(unittest.TestCase):
    """Point 7: what holds of a book that was made."""

    def all_texts(self):
        return list(small_texts()) + list(long_texts())

    def test_it_is_a_book_of_lists_and_tuples(self):
        for text in self.all_texts():
            book = made(text)
            self.assertIs(need_book(book), book)

    def test_the_book_tells_the_text(self):
        for text in self.all_texts():
            self.assertEqual(written_out(made(text)), text)

    def test_all_rules_are_unlike(self):
        for text in self.all_texts():
            rules, _ = made(text)
            self.assertEqual(len(set(rules)), len(rules), text)

    def test_no_pair_stands_twice_in_the_row(self):
        for text in self.all_texts():
            _, row = made(text)
            for pair in zip(row, row[1:]):
                self.assertEqual(standings(row, pair), 1, text)

    def test_no_pair_in_the_row_is_a_rule(self):
        for text in self.all_texts():
            rules, row = made(text)
            for pair in zip(row, row[1:]):
                self.assertNotIn(pair, rules, text)

    def test_each_rule_has_two_uses_or_more(self):
        for text in self.all_texts():
            self.assertTrue(all(many >= 2 for many in uses(made(text))), text)


class SameAgainTest(unittest.TestCase):
    """Point 1: no chance in the making, and nothing shared between two answers."""

    def test_made_again_it_is_the_same(self):
        for text in long_texts():
            self.assertEqual(made(text), made(text))

    def test_a_changed_book_does_not_change_the_next(self):
        rules, row = made("abcabc")
        rules.append(("x", "y"))
        row.clear()
        self.assertEqual(made("abcabc"), ([("a", "b"), (0, "c")], [1, 1]))
        made("")[1].append("a")
        self.assertEqual(made(""), ([], []))


if __name__ == "__main__":
    unittest.main()
