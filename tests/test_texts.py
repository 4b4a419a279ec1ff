"""Promises: books and games as texts, and what texts are read as; their errors in order."""

import itertools
import random
import re
import unittest

from liftedladders.books import Book
from liftedladders.errors import BadBook, BadText, TooMany
from liftedladders.texts import read_book, read_games, write_book, write_games
from tests.support import Case, EqualToAll, ODD, simple_book, some_book

NO_TEXTS = ODD[:3] + ODD[5:] + (b"low 0 high 2; 0 - - -", ["low 0 high 2; 0 - - -"], 0, EqualToAll())
NO_NUMBERS = ("-0", "00", "01", "-01", "+1", "1.0", "12345", "-12345", "00001", "", "-", "--1", "1-", "x", "1x", "\u0661",
              "\xb2", "0x1", "1_0", "1\n", "\t1")
NUMBER = "(?:0|-?[1-9][0-9]{0,3})"
ABOVE_0 = "[1-9][0-9]{0,3}"
FIRST_ROW = re.compile(f"low {NUMBER} high {NUMBER}(?: fresh {ABOVE_0} times {NUMBER})?(?: bonus {ABOVE_0})?")


class BooksTest(Case):
    def test_written(self):
        table = [(0, (1, -1), (0, 0), (-1, 1)), (3, (9, -9), None, None)]
        for book, text in ((simple_book(), "low 0 high 2; 0 1/-1 0/0 -1/1"),
                           (Book(1, 23, table), "low 1 high 23; 0 1/-1 0/0 -1/1; 3 9/-9 - -"),
                           (Book(0, 4, table, fresh=2, times=3), "low 0 high 4 fresh 2 times 3; 0 1/-1 0/0 -1/1; 3 9/-9 - -"),
                           (Book(0, 4, table, fresh=1), "low 0 high 4 fresh 1 times 1; 0 1/-1 0/0 -1/1; 3 9/-9 - -"),
                           (Book(0, 4, table, bonus=5), "low 0 high 4 bonus 5; 0 1/-1 0/0 -1/1; 3 9/-9 - -"),
                           (Book(7, 7, [(0, None, None, None)]), "low 7 high 7; 0 - - -")):
            self.assert_same(write_book(book), text)
            self.assert_same(write_book(book=book), text)
            self.assertEqual(read_book(text), book)
            self.assertEqual(read_book(text=text), book)
            self.assert_same(read_book(text).table, book.table)

    def test_many(self):
        chance = random.Random(191)
        for _ in range(400):
            book = some_book(chance)
            self.assertEqual(read_book(write_book(book)), book)
            self.assert_same(write_book(read_book(write_book(book))), write_book(book))

    def test_no_texts(self):
        for odd in NO_TEXTS:
            self.refuses(BadText, "index", 0, read_book, odd)
            self.refuses(BadText, "index", 0, read_games, odd)

    def test_first_rows_without_the_form(self):
        rows = "; 0 1/-1 0/0 -1/1"
        for odd in ("", "low", "low 0", "low 0 high", "high 2 low 0", "low 0 high 2 ", " low 0 high 2", "low  0 high 2",
                    "Low 0 high 2", "low 0 high 2 fresh 0 times 1", "low 0 high 2 fresh 0", "low 0 high 2 fresh 1",
                    "low 0 high 2 fresh -1 times 1", "low 0 high 2 times 1", "low 0 high 2 times 2 fresh 1",
                    "low 0 high 2 fresh 1 times", "low 0 high 2 fresh 1 bonus 0", "low 0 high 2 bonus 0",
                    "low 0 high 2 bonus -1", "low 0 high 2 bonus", "low 0 high 2 bonus 1 fresh 1 times 1",
                    "low 0 high 2 bonus 1 bonus 1", "low 0 high 2 low 0 high 2", "low 0 high 2 wide 3", "low 0 high 2,",
                    "low 0\thigh 2", "low 0 high 2\n", "0 1/-1 0/0 -1/1", "low 0 high 2;0 - - -", "low 0 high 2 ;0 - - -",
                    "low 0 high 2 fresh 1 times 1 x", "low 0 high 2 fresh 1 times 1 fresh 1 times 1"):
            for text in (odd + rows, odd, odd + rows + "; x", odd + rows + "; "):
                self.refuses(BadText, "index", 0, read_book, text)
        for odd in NO_NUMBERS:
            for text in ("low {} high 2", "low 0 high {}", "low 0 high 2 fresh {} times 1", "low 0 high 2 fresh 1 times {}",
                         "low 0 high 2 bonus {}"):
                self.refuses(BadText, "index", 0, read_book, text.format(odd) + rows)

    def test_first_rows_that_do_not_begin_with_low(self):
        rows = "; 0 1/-1 0/0 -1/1"
        for odd in ("fresh 1 times 2", "bonus 1", "fresh 1 times 1 bonus 2", "fresh 2 times 3", "high 2", "high 2 low 0",
                    "fresh 1 times 2 low 0 high 2", "bonus 1 low 0 high 2", "high 2 bonus 1", "0 high 2", "fresh 1", "bonus"):
            for text in (odd, odd + rows, odd + rows + rows, odd + "; 0 1/-1 0/0", odd + "; odd", odd + rows + "; odd", odd + "; "):
                self.refuses(BadText, "index", 0, read_book, text)

    def test_parts_in_any_order(self):
        parts = ("low 0 high 2", "fresh 1 times 2", "bonus 1")
        for many in range(4):
            for chosen in itertools.permutations(parts, many):
                text = " ".join(chosen) + "; 0 1/-1 0/0 -1/1"
                if chosen == parts:
                    self.refuses(BadBook, "part", "bonus", read_book, text)
                elif chosen[:1] == parts[:1] and list(chosen) == sorted(chosen, key=parts.index):
                    self.assert_same(write_book(read_book(text)), text)
                else:
                    self.refuses(BadText, "index", 0, read_book, text)

    def test_many_first_rows(self):
        chance = random.Random(193)
        parts = ("low 0 high 2", "fresh 1 times 2", "bonus 1")
        words = " ".join(parts).split(" ")
        seen = [0, 0]
        for _ in range(4000):
            chosen = " ".join([part for part in parts if chance.random() < 0.8]).split(" ")
            if chance.random() < 0.3:
                chosen.pop(chance.randint(0, len(chosen) - 1))
            if chance.random() < 0.3:
                chosen.insert(chance.randint(0, len(chosen)), chance.choice(words + ["-1", "24", "x", ""]))
            row = " ".join(chosen)
            seen[FIRST_ROW.fullmatch(row) is not None] += 1
            # The odd row behind a first row of the form is the one that is named.
            index = 0 if FIRST_ROW.fullmatch(row) is None else 1
            self.refuses(BadText, "index", index, read_book, row + "; odd")
            try:
                self.assert_same(write_book(read_book(row + "; 0 - - -")), row + "; 0 - - -")
            except BadText as told:
                self.assertEqual((told.index, index), (0, 0))
            except BadBook:
                self.assertEqual(index, 1)
        self.assertGreater(min(seen), 200)

    def test_rows_without_the_form(self):
        good = "0 1/-1 0/0 -1/1"
        odd_rows = ["", " ", "0", "0 - -", "0 - - - -", "0 -  - -", " 0 - - -", "0 - - - ", "0 1/-1/1 - -", "0 1 - -", "0 / - -",
                    "0 1/ - -", "0 /1 - -", "0 None - -", "0 -- - -", "0 1/-1, - -", "0\t- - -", "0 - - -\n", "0 (1,1) - -",
                    "0 1/ 1 - -", "0;- - -", "low 0 high 2"]
        odd_rows += [f"{odd} - - -" for odd in NO_NUMBERS] + [f"0 {odd}/1 - -" for odd in NO_NUMBERS]
        odd_rows += [f"0 - 1/{odd} -" for odd in NO_NUMBERS] + [f"0 - - {odd}/1" for odd in NO_NUMBERS]
        for odd in odd_rows:
            for index in range(1, 4):
                rows = [good] * (index - 1) + [odd]
                self.refuses(BadText, "index", index, read_book, "; ".join(["low 0 high 2"] + rows))
                self.refuses(BadText, "index", index, read_book, "; ".join(["low 5 high 2"] + rows + ["x"]))
        self.refuses(BadText, "index", 0, read_book, f"low 0 high 2;{good}")
        self.refuses(BadText, "index", 1, read_book, f"low 0 high 2; {good};{good}")
        self.refuses(BadText, "index", 2, read_book, f"low 0 high 2; {good}; ")
        self.refuses(BadText, "index", 1, read_book, f"low 0 high 2; {good} ; {good}")

    def test_then_the_errors_of_the_book(self):
        for text, part in (("low 24 high 24; 0 - - -", "low"), ("low -1 high 2; 1 - - -", "low"), ("low 3 high 2; 0 - - -", "high"),
                           ("low 0 high 9999; 0 - - -", "high"), ("low 0 high 2; 1 - - -", "table"), ("low 0 high 2", "table"),
                           ("low 0 high 2; 0 10/1 - -", "table"), ("low 0 high 2; 0 - -9999/1 -", "table"),
                           ("low 0 high 2; 0 - - -; 0 - - -", "table"), ("low 0 high 2; -1 - - -", "table"),
                           ("low 0 high 2" + "; 0 - - -" * 7, "table"), ("low 0 high 2 fresh 3 times 1; 0 - - -", "fresh"),
                           ("low 0 high 2 fresh 1 times 4; 0 - - -", "times"), ("low 0 high 2 fresh 1 times 0; 0 - - -", "times"),
                           ("low 0 high 2 fresh 1 times -1; 0 - - -", "times"), ("low 0 high 2 bonus 6; 0 - - -", "bonus"),
                           ("low 0 high 2 fresh 1 times 1 bonus 1; 0 - - -", "bonus")):
            self.refuses(BadBook, "part", part, read_book, text)
        self.refuses(TooMany, "limit", 24, read_book, "low 0 high 12 bonus 1; 0 - - -")
        self.refuses(TooMany, "limit", 24, read_book, "low 0 high 8 fresh 2 times 3; 0 - - -")


class GamesTest(Case):
    def test_written(self):
        for games, text in (([], ""), ([("a", "b", "upper")], "a b upper"), ([("a", "a", "draw")], "a a draw"),
                            ([("anna", "bob", "lower"), ("bob", "anna", "draw"), ("none", "abcdefgh", "upper")],
                             "anna bob lower; bob anna draw; none abcdefgh upper")):
            self.assert_same(write_games(games), text)
            self.assert_same(write_games(games=games), text)
            self.assert_same(read_games(text), games)
            self.assert_same(read_games(text=text), games)

    def test_many(self):
        chance = random.Random(192)
        for _ in range(100):
            games = [("".join(chance.choice("abyz") for _ in range(chance.randint(1, 8))), chance.choice(["a", "undo"]),
                      chance.choice(["upper", "draw", "lower"])) for _ in range(chance.randint(0, 9))]
            self.assert_same(read_games(write_games(games)), games)

    def test_rows_without_the_form(self):
        good = "a b upper"
        for odd in (" ", "a", "a b", "a b upper ", " a b upper", "a  b upper", "a b  upper", "a b upper x", "a b Upper", "a b one",
                    "A b upper", "a abcdefghi upper", "abcdefghi a upper", "a1 b upper", "a b 1", "a b upper,", "a\tb upper",
                    "a b upper\n", "\xe4 b upper", "a b upper;a b upper", "a b upper ;a b upper", "-", "a - upper"):
            for index in range(3):
                self.refuses(BadText, "index", index, read_games, "; ".join([good] * index + [odd]))
                self.refuses(BadText, "index", index, read_games, "; ".join([good] * index + [odd, "x"]))
        # A row with nothing in it is one, too, where it is not the only one.
        for text, index in (("; ", 0), ("; a b upper", 0), ("a b upper; ", 1), ("a b upper; ; a b upper", 1),
                            ("a b upper;  a b upper", 1), ("a b upper ; a b upper", 0)):
            self.refuses(BadText, "index", index, read_games, text)

    def test_told_lists_are_new(self):
        for text in ("", "a b upper"):
            told = read_games(text)
            told.append(("x", "y", "draw"))
            self.assertEqual(len(read_games(text)), len(told) - 1)
        games = [("a", "b", "upper")]
        write_games(games)
        self.assert_same(games, [("a", "b", "upper")])


if __name__ == "__main__":
    unittest.main()
