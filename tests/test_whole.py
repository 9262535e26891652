"""Tests of the whole program: points 3 to 11 for books that `made` gives."""

import copy
import unittest

from pairrules.books import depth, length, lengths, need_book, uses, written_out
from pairrules.looking import cut, sign_at
from pairrules.making import made
from pairrules.notes import read, shown
from pairrules.searching import first_place, how_often
from samples import long_texts, small_texts


def some_texts():
    """Texts of many kinds, fewer of them than all the samples."""
    for number, text in enumerate(small_texts()):
        if number % 5 == 0:
            yield text
    yield from long_texts()


def slow_places(text, word):
    return [at for at in range(len(text) - len(word) + 1) if text.startswith(word, at)]


class MadeBookTest(unittest.TestCase):
    """What is told of a made book is what its text has."""

    def test_lengths_and_the_text(self):
        for text in some_texts():
            book = made(text)
            self.assertEqual((length(book), written_out(book)), (len(text), text))
            for number, many in enumerate(lengths(book)):
                self.assertEqual(len(written_out((book[0], [number]))), many)

    def test_the_sign_at_each_place(self):
        for text in some_texts():
            book = made(text)
            deep = depth(book)
            for place in range(0, len(text), 1 + len(text) // 100):
                sign, opened = sign_at(book, place)
                self.assertEqual(sign, text[place])
                self.assertLessEqual(len(opened), deep)

    def test_stretches(self):
        for text in some_texts():
            book = made(text)
            deep = depth(book)
            step = 1 + len(text) // 12
            for start in range(0, len(text) + 1, step):
                for end in range(start, len(text) + 1, step):
                    told, opened = cut(book, start, end)
                    self.assertEqual(told, text[start:end])
                    self.assertLessEqual(opened, end - start + 2 * deep)

    def test_the_whole_text_opens_each_rule_as_often_as_it_is_used(self):
        for text in some_texts():
            book = made(text)
            self.assertEqual(cut(book, 0, len(text)), (text, sum(uses(book))))
            self.assertEqual(cut(book, len(text), len(text)), ("", 0))

    def test_words(self):
        for text in some_texts():
            book = made(text)
            words = ["a", "ab", "the ", "b\n", "a" * 200, text[:200], text[-200:], text[1:4] + "a", text[-7:]]
            words += [text[len(text) // 2:][:many] for many in (1, 2, 3, 20)]
            for word in words:
                if word:
                    places = slow_places(text, word)
                    self.assertEqual(how_often(book, word), len(places))
                    self.assertEqual(first_place(book, word), places[0] if places else None)

    def test_written_and_read_again(self):
        for text in some_texts():
            book = made(text)
            again = read(shown(book))
            self.assertEqual(again, book)
            self.assertIs(need_book(again), again)
            self.assertEqual(written_out(again), text)

    def test_a_written_book_can_be_made_into_a_book(self):
        for text in some_texts():
            line = shown(made(text))
            if len(line) <= 1000:
                self.assertEqual(written_out(read(shown(made(line)))), line)

    def test_nothing_is_changed(self):
        for text in ("", "abcabc", "the quick fox\nand the quick dog\n" * 20):
            book = made(text)
            before = copy.deepcopy(book)
            for ask in (need_book, lengths, length, depth, uses, written_out, shown):
                ask(book)
            cut(book, 0, len(text))
            for ask in (how_often, first_place):
                ask(book, "ab")
            self.assertEqual(book, before)


if __name__ == "__main__":
    unittest.main()
