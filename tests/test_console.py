"""Promises: what a console answers to each kind of row, and what it refuses; then nothing has changed."""

import random
import unittest

from liftedladders.books import Book
from liftedladders.console import Console
from liftedladders.errors import (BadBook, BadGame, BadLine, BadName, BadPlace, BadText, LadderError, NothingToUndo,
                                  TooMany)
from liftedladders.ladder import Ladder
from liftedladders.shares import share_at
from liftedladders.texts import read_book, write_book, write_games
from liftedladders.ways import ways_of
from tests.support import Case, EqualToAll, ODD, simple_book, some_book
from tests.test_ladder import told, undone

TABLE = [(0, (1, -1), (0, 0), (-1, 1)), (2, (1, -1), None, (-2, 2))]


def console_of(*rows, book=None):
    console = Console(Book(0, 9, TABLE) if book is None else book)
    for row in rows:
        console.say(row)
    return console


class SayTest(Case):
    def says(self, console, *talk):
        for row, answer in talk:
            self.assert_same(console.say(row), answer)

    def test_each_kind(self):
        console = Console(book=Book(0, 9, TABLE))
        self.assertIs(type(console.ladder), Ladder)
        self.says(console, ("order", "none"), ("games", "none"), ("join anna 3", "ok"), ("join bob 3", "ok"),
                  ("join zoe 9", "ok"), ("order", "zoe anna bob"), ("play bob anna upper", "counted"), ("rating bob", "4"),
                  ("rating anna", "2"), ("play bob anna draw", "not counted"), ("play anna bob lower", "counted"),
                  ("games", "bob anna upper; bob anna lower"), ("rating anna", "4"), ("rating bob", "2"),
                  ("undo", "ok"), ("games", "bob anna upper"), ("undo", "ok"), ("games", "bob anna upper"), ("undo", "ok"),
                  ("games", "none"), ("order", "zoe anna bob"), ("undo", "ok"), ("order", "anna bob"),
                  ("book low 1 high 5; 0 2/-2 - 0/0", "ok"), ("play anna bob upper", "counted"), ("rating anna", "5"),
                  ("rating bob", "1"), ("share 1 5", "1/1"))
        self.assert_same(write_book(console.ladder.book), "low 1 high 5; 0 2/-2 - 0/0")
        self.assert_same(console.say(row="order"), "anna bob")

    def test_all_steps_can_be_taken_back(self):
        console = console_of("join a 3", "join b 5", "play a b upper", "play a b draw", "book low 0 high 7; 0 - - -",
                             "play a b upper", "try undo", "try join c 1")
        self.assertEqual(undone(console.ladder), 6)
        self.assert_same(console.say("order"), "none")

    def test_only_one_called_none(self):
        console = console_of("join none 3")
        self.says(console, ("order", "none"), ("rating none", "3"), ("games", "none"), ("join undo 4", "ok"),
                  ("order", "undo none"), ("play none undo upper", "counted"), ("games", "undo none upper"))

    def test_try(self):
        console = console_of("join a 3", "join b 5", "play a b upper")
        ahead = told(console.ladder)
        for row, answer in (("try play a b upper", "counted"), ("try play a b draw", "not counted"), ("try join c 9", "ok"),
                            ("try undo", "ok"), ("try book low 0 high 7; 0 - - -", "ok"), ("try undo", "ok")):
            self.assert_same(console.say(row), answer)
            self.assertEqual(told(console.ladder), ahead)
            self.assertIs(console.ladder.book, ahead[0])
        self.assertEqual(undone(console.ladder), 3)

    def test_numbers(self):
        console = Console(Book(0, 23, TABLE))
        self.says(console, ("join a 0", "ok"), ("join b 23", "ok"), ("join c 9", "ok"), ("rating a", "0"), ("rating b", "23"))
        for target in ("0", "-1", "-9999"):
            self.assert_same(console.say("share 0 " + target), "1/1")
        for target in ("24", "9999"):
            self.assert_same(console.say("share 23 " + target), "0/1")

    def test_shares(self):
        chance = random.Random(201)
        for _ in range(60):
            book = some_book(chance, 6)
            console = Console(book)
            rating, target = chance.randint(book.low, book.high), chance.randint(book.low, book.high)
            share = share_at(ways_of(book), book.start(rating), [place for place in book.places() if place[0] >= target])
            self.assert_same(console.say(f"share {rating} {target}"), "{}/{}".format(*share))
        newcomers = "low 0 high 4 fresh 1 times 2; 0 - - -1/0; 2 1/-2 0/0 -2/2; 3 -2/1 - -1/-2"
        self.says(Console(read_book(newcomers)), ("share 3 4", "2/3"), ("share 3 3", "1/1"), ("share 3 5", "0/1"))
        # The share is that of the book of the ladder, whatever it was ahead.
        console = Console(simple_book())
        self.says(console, ("share 0 2", "1/1"), ("try book low 0 high 2; 0 - - -", "ok"), ("share 0 2", "1/1"),
                  ("book low 0 high 2; 0 - - -", "ok"), ("share 0 2", "0/1"), ("undo", "ok"), ("share 0 2", "1/1"))

    def test_many(self):
        chance = random.Random(202)
        for _ in range(40):
            book = some_book(chance, 7)
            console, ladder = Console(book), Ladder(book)
            for _ in range(25):
                row, step = some_row(chance)
                try:
                    answer = step(ladder)
                except (LadderError, NothingToUndo) as error:
                    self.refuses_as(error, console, row)
                    self.refuses_as(error, console, "try " + row)
                else:
                    if chance.random() < 0.3:
                        ladder.undo() if row != "undo" else ladder.attempt(lambda _: None)
                        if row == "undo":
                            self.assert_same(console.say(row), answer)
                        else:
                            self.assert_same(console.say("try " + row), answer)
                    else:
                        self.assert_same(console.say(row), answer)
                self.assertEqual(told(console.ladder), told(ladder))
                self.assert_same(console.say("order"), " ".join(ladder.order()) or "none")
                self.assert_same(console.say("games"), write_games(ladder.games()) or "none")

    def refuses_as(self, error, console, row):
        ahead = told(console.ladder)
        with self.assertRaises(type(error)) as caught:
            console.say(row)
        self.assert_same(vars(caught.exception), vars(error))
        self.assertEqual(told(console.ladder), ahead)


def some_row(chance):
    """A row that makes a step or takes one back, and the step in a ladder, with its answer."""
    kind = chance.choice(["join", "play", "play", "play", "undo", "book"])
    one, other, rating = chance.choice("abcd"), chance.choice("abcd"), chance.randint(-1, 8)
    if kind == "join":
        return f"join {one} {rating}", lambda ladder: ladder.join(one, rating) or "ok"
    if kind == "play":
        result = chance.choice(["upper", "draw", "lower", "lower", "win"])
        return (f"play {one} {other} {result}",
                lambda ladder: "counted" if ladder.enter(one, other, result) else "not counted")
    if kind == "book":
        book = some_book(chance, 7)
        return "book " + write_book(book), lambda ladder: ladder.rebook(book) or "ok"
    return "undo", lambda ladder: ladder.undo() or "ok"


class RefusedTest(Case):
    def setUp(self):
        self.console = console_of("join a 3", "join b 5", "play a b upper")
        self.ahead = told(self.console.ladder)

    def tearDown(self):
        self.assertEqual(told(self.console.ladder), self.ahead)
        self.assertEqual(undone(self.console.ladder), 3)

    def test_no_book(self):
        for odd in ODD + (EqualToAll(), Ladder(simple_book())):
            self.refuses(BadBook, "part", "book", Console, odd)
            self.refuses(BadBook, "part", "book", Console, book=odd)

    def test_no_rows(self):
        for odd in ODD[:3] + ODD[5:] + (b"order", ["order"], ("undo",), 0, EqualToAll()):
            self.refuses_itself(BadLine, "line", odd, self.console.say, odd)
            self.refuses_itself(BadLine, "line", odd, self.console.say, row=odd)
        for odd in ("", " ", "  ", "orders", "Order", "order a", "games a", "undo a", "undo 1", "rating", "rating a b", "join",
                    "join a", "join c 1 2", "play", "play a", "play a b", "play a b upper c", "share", "share 1", "share 1 2 3",
                    "book", "try", "try try undo", "try order", "try games", "try rating a", "try share 1 2", "try try", "try x",
                    "try join c", "try undo a", "try book", "JOIN c 1", "Try undo", "none", "ok", "leave a", "a", "rename a b",
                    "help", "names", "quit"):
            self.refuses(BadLine, "line", odd, self.console.say, odd)

    def test_blanks(self):
        for row in ("undo", "order", "games", "rating a", "join c 1", "play a b upper", "share 1 2", "try undo", "try join c 1",
                    "book low 0 high 9; 0 - - -", "try book low 0 high 9; 0 - - -", "try play a b upper"):
            for odd in (" " + row, row + " ", row.replace(" ", "  ", 1) if " " in row else "  " + row,
                        "  ".join(row.rsplit(" ", 1)) + " " * (" " not in row)):
                self.refuses(BadLine, "line", odd, self.console.say, odd)
        for odd in ("join\tc 1", "join c\t1", "order\n", "\torder", "undo\n", "join c 1\n", "try\tundo", "share 1\t2"):
            self.refuses(BadLine, "line", odd, self.console.say, odd)

    def test_numbers(self):
        for odd in ("-0", "00", "01", "-01", "+1", "1.0", "12345", "-12345", "-", "--1", "x", "1x", "\u0661", "0x1", "1_0", "one"):
            for row in ("join c {}", "try join c {}", "share {} 1", "share 1 {}", "join a {}", "share {} x"):
                self.refuses(BadLine, "line", row.format(odd), self.console.say, row.format(odd))

    def test_other_errors(self):
        for ahead in ("", "try "):
            for odd in ("a", "abcdefghi", "C", "c1", "-", "3", "\xe4", "c,"):
                self.refuses(BadName, "name", odd, self.console.say, f"{ahead}join {odd} 3")
                self.refuses(BadName, "name", odd, self.console.say, f"{ahead}join {odd} 77")
            for odd in (-1, 10, 9999, -9999):
                self.refuses(BadPlace, "place", odd, self.console.say, f"{ahead}join c {odd}")
            for odd in ("c", "A", "abcdefghi", "1", "a;"):
                self.refuses(BadName, "name", odd, self.console.say, f"{ahead}play {odd} x upper")
                self.refuses(BadName, "name", odd, self.console.say, f"{ahead}play a {odd} x")
            self.refuses(BadName, "name", "a", self.console.say, f"{ahead}play a a x")
            for odd in ("Upper", "win", "1", "one"):
                self.refuses(BadGame, "value", odd, self.console.say, f"{ahead}play a b {odd}")
            for text, index in (("x", 0), ("low 0 high 9; x", 1), ("low 0 high 9 ; 0 - - -", 0), ("none", 0), ("-", 0),
                                ("low 0 high 9; 0 - - -; 1 - -", 2), ("low 0 high 9 bonus 0; 0 - - -", 0), ("bonus 1", 0),
                                ("bonus 1; 0 - - -", 0), ("fresh 1 times 2", 0), ("fresh 1 times 2; 0 - -", 0)):
                self.refuses(BadText, "index", index, self.console.say, f"{ahead}book {text}")
            self.refuses(BadBook, "part", "high", self.console.say, f"{ahead}book low 3 high 2; 0 - - -")
            self.refuses(BadBook, "part", "table", self.console.say, f"{ahead}book low 0 high 9")
            self.refuses(TooMany, "limit", 24, self.console.say, f"{ahead}book low 0 high 23 bonus 1; 0 - - -")
            # a is at 2 and b at 6.
            self.refuses(BadBook, "part", "book", self.console.say, f"{ahead}book low 3 high 9; 0 - - -")
            self.refuses(BadBook, "part", "book", self.console.say, f"{ahead}book low 0 high 5; 0 - - -")
        for odd in ("c", "A", "abcdefghi", "1", "order"):
            self.refuses(BadName, "name", odd, self.console.say, f"rating {odd}")
        for odd in (-1, 10, 9999):
            self.refuses(BadPlace, "place", odd, self.console.say, f"share {odd} 3")

    def test_nothing_to_undo(self):
        console = Console(simple_book())
        for row in ("undo", "try undo"):
            self.refuses(NothingToUndo, "name", "step", console.say, row)
        console.say("join a 0")
        console.say("try undo")
        console.say("undo")
        self.refuses(NothingToUndo, "name", "step", console.say, "undo")
        self.assertEqual(console.ladder.book, read_book(write_book(simple_book())))


if __name__ == "__main__":
    unittest.main()
