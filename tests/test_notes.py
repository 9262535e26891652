"""Tests of pairrules.notes: points 1, 2 and 11 of the document."""

import copy
import itertools
import unittest

from pairrules.books import need_book
from pairrules.errors import BookError, NoBook
from pairrules.notes import read, shown
from samples import JUNK, SIGNS, chance_books, doubling, great_book, growing, no_books, small_books

# Books, and how they are written.
WRITTEN = [
    (([], []), ""),
    (([], ["a"]), "'a"),
    (([], ["a", "b"]), "'a 'b"),
    (([("a", "b")], []), "'a 'b\n"),
    (([("a", "b")], [0]), "'a 'b\n0"),
    (([("a", "b"), (0, "c")], [1, 0, "d"]), "'a 'b\n0 'c\n1 0 'd"),
    (([("a", "b"), (0, 0)], []), "'a 'b\n0 0\n"),
    (([("'", " "), ("\n", 0)], ["\n", 1, "'", " "]), "'' ' \n'\n 0\n'\n 1 '' ' "),
    (([], [" "]), "' "),
    (([], [" ", " "]), "'  ' "),
    (([], ["\n"]), "'\n"),
    (([], ["\n", "\n"]), "'\n '\n"),
    (([("\n", "\n")], []), "'\n '\n\n"),
    (([], ["'", "'"]), "'' ''"),
    (([("0", "1")], ["0", 0, "0"]), "'0 '1\n'0 0 '0"),
]

# What the document calls wrong, for a text that is written so for no book.
WRONG = [
    # A blank too many, or too few.
    " ", " 'a", "'a ", "'a  'b", "'a 'b\n 0", "'a 'b\n0 ", "'a 'b \n0", " 'a 'b\n0", "'a  'b\n0", "'a 'b\n0  0",
    "'a'b", "'a 'b\n00", "'a'b\n0", "'a 'b\n0'a", "'a 'b\n'a0", "'a 'b\n ",
    # A nought ahead, a sign ahead of a number, a number of other figures.
    "'a 'b\n00", "'a 'b\n01", "'a 'b\n000", "'a 'b\n0 'c\n01", "'a 'b\n+0", "'a 'b\n-0", "'a 'b\n-1", "'a 'b\n0_0",
    "'a 'b\n0.0", "'a 'b\n0x0", "'a 'b\n1e0",
    # A number that is too great.
    "0", "1", "'a 'b\n1", "'a 'b\n2", "'a 'b\n10", "'a 'b\n600", "'a 'b\n" + "9" * 5000, "0 'a\n", "'a 0\n",
    "'a 'b\n1 'a\n", "'a 'b\n'a 1\n", "1 'a\n'a 'b\n0",
    # A rule of none, of one or of three symbols.
    "\n", "\n'a", "'a\n", "'a\n0", "'a 'b 'c\n", "'a 'b 'c\n0", "'a 'b\n0\n", "'a 'b\n\n0", "'a 'b\n0 0 0\n1", "\n\n",
    # A line end behind the last row that makes it a rule.
    "'a\n", "'a 'b\n0\n", "'a 'b\n\n", "'a 'b\n0 0\n\n", "'a 'b 'c\n", "'a 'b\n0 0 'c\n",
    # A sign without its mark, a mark without its sign.
    "a", "ab", "a 'b", "'a b", "'a 'b\na", "'", "'a '", "'a 'b\n'", "'a 'b\n0 '", "'''", "' 'a", "'\n'a", "'\n\n",
    "'ab",
    # A tab.
    "\t", "'\t", "'a\t'b", "'a 'b\n0\t0", "'a 'b\t\n0", "'a 'b\n0\t", "\t'a",
    # Nothing like it.
    "None", "[]", "([], [])", "'a,'b", "\"a", "'a\r\n",
]


class ShownTest(unittest.TestCase):
    """Point 11: how a book is written."""

    def test_books_and_how_they_are_written(self):
        for book, line in WRITTEN:
            self.assertEqual(shown(book), line)

    def test_numbers_of_several_figures(self):
        book = (doubling(600), [599, 10, 0])
        rows = shown(book).split("\n")
        self.assertEqual(rows[0], "'a 'a")
        self.assertEqual(rows[1:600], [f"{number} {number}" for number in range(599)])
        self.assertEqual(rows[600:], ["599 10 0"])

    def test_2000_symbols_in_the_row(self):
        self.assertEqual(shown(([], ["a"] * 2000)), " ".join(["'a"] * 2000))

    def test_every_sign_has_its_mark(self):
        for sign in SIGNS:
            self.assertEqual(shown(([(sign, "x")], [sign])), "'" + sign + " 'x\n'" + sign)

    def test_no_written_text_has_a_tab(self):
        for book in chance_books(100):
            self.assertNotIn("\t", shown(book))

    def test_what_is_no_book(self):
        for book in no_books():
            with self.subTest(book=repr(book)[:80]), self.assertRaises(NoBook):
                shown(book)

    def test_the_book_stays_as_it_is(self):
        for book in chance_books(40):
            before = copy.deepcopy(book)
            self.assertIs(type(shown(book)), str)
            self.assertEqual(book, before)
            self.assertEqual(shown(book), shown(before))


class ReadTest(unittest.TestCase):
    """Point 11: a written book is read again, and nothing else is."""

    def test_books_and_how_they_are_written(self):
        for book, line in WRITTEN:
            self.assertEqual(read(line), book)

    def test_read_again_it_is_the_same_book(self):
        books = list(small_books()) + list(chance_books(300)) + [great_book(600, 2000, SIGNS)]
        books += [(doubling(600), [599] * 2000), (growing(600), []), ([], ["a"] * 2000)]
        for book in books:
            self.assertEqual(read(shown(book)), book)

    def test_every_pair_of_signs_is_read_again(self):
        for first, second in itertools.product(SIGNS, repeat=2):
            for book in [([(first, second)], []), ([], [first, second]), ([(first, second)], [second, 0, first])]:
                self.assertEqual(read(shown(book)), book)

    def test_kinds_of_the_answer(self):
        for _, line in WRITTEN:
            book = read(line)
            self.assertIs(need_book(book), book)
            kinds = [type(part) for part in (book, *book)] + [type(rule) for rule in book[0]]
            self.assertEqual(kinds, [tuple, list, list] + [tuple] * len(book[0]))

    def test_a_book_that_was_read_is_the_callers_own(self):
        read("'a 'b\n0")[1].append(0)
        self.assertEqual(read("'a 'b\n0"), ([("a", "b")], [0]))

    def test_wrong_texts(self):
        for line in WRONG:
            with self.subTest(line=line[:80]), self.assertRaises(NoBook):
                read(line)

    def test_line_end_behind_a_last_row_of_two_symbols_makes_it_a_rule(self):
        self.assertEqual(read("'a 'b\n0 0"), ([("a", "b")], [0, 0]))
        self.assertEqual(read("'a 'b\n0 0\n"), ([("a", "b"), (0, 0)], []))

    def test_at_most_600_rules(self):
        rows = ["'a 'a"] + [f"{number} {number}" for number in range(601)]
        for many in (599, 600):
            for last in ("", "'b", str(many - 1)):
                book = read("\n".join(rows[:many] + [last]))
                self.assertEqual(book[0], doubling(many))
        for last in ("", "'b", "0", "600"):
            with self.assertRaises(NoBook):
                read("\n".join(rows[:601] + [last]))
        with self.assertRaises(NoBook):
            read("\n".join(rows[:600] + ["600"]))
        with self.assertRaises(NoBook):
            read("\n".join(["'a 'b"] * 601 + [""]))

    def test_at_most_2000_symbols_in_the_row(self):
        for symbol, tuple_symbol in (("'a", "a"), ("' ", " "), ("0", 0)):
            line = "'a 'b\n" + " ".join([symbol] * 2000)
            self.assertEqual(read(line), ([("a", "b")], [tuple_symbol] * 2000))
            with self.assertRaises(NoBook):
                read(line + " " + symbol)

    def test_number_in_a_rule_is_below_its_own(self):
        self.assertEqual(read("'a 'b\n'a 0\n1 'b\n"), ([("a", "b"), ("a", 0), (1, "b")], []))
        for line in ("0 'b\n", "'a 'b\n'a 1\n", "'a 'b\n'a 0\n2 'b\n", "'a 'b\n'a 0\n3 'b\n1"):
            with self.assertRaises(NoBook):
                read(line)

    def test_what_is_no_text(self):
        for thing in JUNK + [b"", b"'a", 5, 1.5, ["'a"], ("'a", "'b"), ([], []), ([("a", "b")], [0])]:
            with self.subTest(thing=repr(thing)), self.assertRaises(NoBook):
                read(thing)

    def test_a_text_is_read_only_if_it_is_how_its_book_is_written(self):
        found = 0
        for many in range(8):
            for signs in itertools.product("'a0 \n", repeat=many):
                line = "".join(signs)
                try:
                    book = read(line)
                except NoBook:
                    continue
                self.assertEqual(shown(book), line)
                found += 1
        # No symbol; one of the five signs; two of them as the row, as a rule, as a rule that the row has.
        self.assertEqual(found, 1 + 5 + 3 * 25)

    def test_no_book_is_a_refusal(self):
        with self.assertRaises(BookError):
            read("'")


if __name__ == "__main__":
    unittest.main()
