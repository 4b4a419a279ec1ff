"""Promises: ladders of players, whose steps can be taken back, and trials; their errors in order."""

import random
import unittest

from liftedladders.books import Book
from liftedladders.errors import BadBook, BadGame, BadName, BadPlace, NothingToUndo
from liftedladders.ladder import Ladder
from tests.support import Case, EqualToAll, ODD, simple_book, some_book

RESULTS = ("upper", "draw", "lower")
WORDS = ("a", "z", "abcdefgh", "none", "zzzzzzzz")
NO_WORDS = ODD[:4] + ODD[5:] + ("", "abcdefghi", "A", "aB", "a b", " a", "a ", "a1", "1", "a-b", "a_b", "\xe4", "\u0430", "a\n", "\n", 1, -1,
                  ["a"], ("a",), b"a", {"a": 1}, EqualToAll())
TABLE = [(0, (1, -1), (0, 0), (-1, 1)), (2, (1, -1), None, (-2, 2))]


class Oops(Exception):
    """An error of the caller's own."""


def told(ladder):
    """All that a ladder tells."""
    names = ladder.names()
    return (ladder.book, names, [ladder[name] for name in names], [ladder(name) for name in names], ladder.order(),
            ladder.games(), len(ladder))


def ladder_of(ratings, book=None):
    ladder = Ladder(Book(0, 9, TABLE) if book is None else book)
    for name, rating in ratings.items():
        ladder.join(name, rating)
    return ladder


def undone(ladder):
    """How many steps can be taken back; they are."""
    many = 0
    try:
        while True:
            ladder.undo()
            many += 1
    except NothingToUndo:
        return many


class Model:
    """A ladder told by the definition: all games played anew each time it is asked."""

    def __init__(self, book):
        self.first = book
        self.steps = []

    def state(self):
        book, there, games = self.first, {}, []
        for step in self.steps:
            if step[0] == "join":
                there[step[1]] = book.start(step[2])
            elif step[0] == "book":
                book = step[1]
            else:
                upper, lower = step[1:3] if there[step[1]][0] >= there[step[2]][0] else step[2:0:-1]
                behind = book.game(there[upper], there[lower], step[3])
                if behind is not None:
                    there[upper], there[lower] = behind
                    games.append((upper, lower, step[3]))
        names = sorted(there)
        return (book, names, [there[name] for name in names], [there[name][0] for name in names],
                sorted(names, key=lambda name: (-there[name][0], name)), games, len(there))


class LadderTest(Case):
    def test_told(self):
        book = Book(0, 9, TABLE)
        ladder = Ladder(book=book)
        self.assert_same(told(ladder)[1:], ([], [], [], [], [], 0))
        self.assertIsNone(ladder.join("bob", 3))
        self.assertIsNone(ladder.join(rating=3, name="anna"))
        ladder.join("zoe", 5)
        self.assert_same(ladder.names(), ["anna", "bob", "zoe"])
        self.assert_same(ladder.order(), ["zoe", "anna", "bob"])
        self.assert_same(ladder["zoe"], (5, 0))
        self.assert_same(ladder("zoe"), 5)
        self.assert_same(ladder(name="bob"), 3)
        self.assert_same(len(ladder), 3)
        # Of equal ratings the first one told is the upper one; otherwise the one with the greater rating.
        self.assert_truth(ladder.enter("bob", "anna", "upper"), True)
        self.assert_truth(ladder.enter(result="upper", other="bob", one="anna"), True)
        self.assert_truth(ladder.enter("anna", "zoe", "draw"), False)
        self.assert_truth(ladder.enter("anna", "zoe", "lower"), True)
        self.assert_same(ladder.games(), [("bob", "anna", "upper"), ("bob", "anna", "upper"), ("zoe", "anna", "lower")])
        self.assert_same([ladder(name) for name in ladder.names()], [3, 5, 3])
        self.assert_same(ladder.order(), ["bob", "anna", "zoe"])
        self.assertIs(ladder.book, book)

    def test_enter(self):
        for one, other, result, told_places in ((4, 4, "upper", (5, 3)), (4, 4, "lower", (3, 5)), (4, 4, "draw", (4, 4)),
                                                (3, 4, "upper", (2, 5)), (3, 4, "lower", (4, 3)), (6, 3, "lower", (4, 5)),
                                                (3, 6, "lower", (5, 4)), (9, 0, "upper", (9, 0)), (0, 9, "draw", (0, 9))):
            ladder = ladder_of({"a": one, "b": other})
            counted = ladder.enter("a", "b", result)
            self.assert_truth(counted, (result, abs(one - other) < 2) != ("draw", False))
            self.assert_same((ladder("a"), ladder("b")), told_places)
            upper = ("a", "b") if one >= other else ("b", "a")
            self.assert_same(ladder.games(), [(*upper, result)] if counted else [])

    def test_phases(self):
        ladder = ladder_of({"a": 2, "b": 2}, Book(0, 7, TABLE, fresh=1, times=3))
        self.assert_same(ladder["a"], (2, 1))
        ladder.enter("a", "b", "upper")
        self.assert_same((ladder["a"], ladder["b"]), ((5, 0), (0, 0)))
        ladder = ladder_of({"a": 2, "b": 2}, Book(0, 9, TABLE, bonus=2))
        ladder.enter("a", "b", "upper")
        ladder.enter("a", "b", "upper")
        self.assert_same((ladder["a"], ladder["b"]), ((6, 1), (0, 0)))

    def test_names(self):
        ladder = Ladder(simple_book())
        for name in WORDS:
            self.assert_truth(name in ladder, False)
            ladder.join(name, 0)
            self.assert_truth(name in ladder, True)
        self.assert_same(ladder.names(), sorted(WORDS))
        self.assert_same(ladder.order(), sorted(WORDS))
        for odd in NO_WORDS + ("b", "nobody"):
            self.assert_truth(odd in ladder, False)

    def test_book(self):
        one, other = Book(0, 9, TABLE), Book(2, 5, [(0, (0, 0), (1, 1), None)])
        ladder = ladder_of({"a": 3, "b": 5}, one)
        ladder.enter("a", "b", "upper")
        self.refuses(BadBook, "part", "book", ladder.rebook, other)
        ladder.undo()
        self.assertIsNone(ladder.rebook(other))
        self.assertIs(ladder.book, other)
        self.assert_same([ladder["a"], ladder["b"]], [(3, 0), (5, 0)])
        ladder.enter("a", "b", "draw")
        self.assert_same([ladder["a"], ladder["b"]], [(4, 0), (5, 0)])
        ladder.book = one
        self.assertIs(ladder.book, one)
        ladder.enter("a", "b", "lower")
        self.assert_same(ladder.games(), [("b", "a", "draw"), ("b", "a", "lower")])
        ladder.rebook(book=other)
        self.assertIs(ladder.book, other)

    def test_told_lists_are_new(self):
        ladder = ladder_of({"a": 3, "b": 5})
        ladder.enter("a", "b", "upper")
        kept = told(ladder)
        for call in (ladder.names, ladder.order, ladder.games):
            call().clear()
        self.assert_same(told(ladder)[1:], kept[1:])

    def test_it_cannot_be_iterated(self):
        with self.assertRaises(TypeError):
            list(ladder_of({"a": 3}))


class UndoTest(Case):
    def test_each_kind_of_step(self):
        ladder = ladder_of({"a": 3, "b": 5})
        other = Book(1, 8, TABLE)
        for step in (lambda: ladder.join("c", 2), lambda: ladder.enter("a", "b", "upper"),
                     lambda: ladder.enter("a", "b", "draw"), lambda: ladder.rebook(other),
                     lambda: setattr(ladder, "book", other), lambda: ladder.rebook(ladder.book)):
            ahead = told(ladder)
            step()
            self.assertIsNone(ladder.undo())
            self.assertEqual(told(ladder), ahead)
            self.assertIs(ladder.book, ahead[0])
        self.assertEqual(undone(ladder), 2)
        self.assert_same(told(ladder)[1:], ([], [], [], [], [], 0))

    def test_all_steps(self):
        ladder = ladder_of({"a": 3, "b": 5})
        seen = []
        for step in (lambda: ladder.enter("a", "b", "upper"), lambda: ladder.enter("a", "b", "draw"),
                     lambda: ladder.rebook(Book(1, 8, TABLE)), lambda: ladder.join("c", 8),
                     lambda: ladder.enter("c", "a", "draw"), lambda: ladder.enter("c", "b", "lower"),
                     lambda: ladder.rebook(Book(0, 23, TABLE)), lambda: ladder.enter("c", "b", "upper")):
            seen.append(told(ladder))
            step()
        for ahead in reversed(seen):
            ladder.undo()
            self.assertEqual(told(ladder), ahead)

    def test_steps_behind_one_that_was_taken_back(self):
        ladder = ladder_of({"a": 3, "b": 5})
        ladder.enter("a", "b", "upper")
        ladder.undo()
        ladder.enter("a", "b", "lower")
        self.assert_same(ladder.games(), [("b", "a", "lower")])
        ladder.undo()
        ladder.undo()
        self.assert_same(ladder.names(), ["a"])
        ladder.join("b", 1)
        self.assert_same(ladder["b"], (1, 0))

    def test_nothing(self):
        ladder = Ladder(simple_book())
        self.refuses(NothingToUndo, "name", "step", ladder.undo)
        ladder.join("a", 1)
        ladder.undo()
        self.refuses(NothingToUndo, "name", "step", ladder.undo)
        ladder.rebook(simple_book())
        ladder.undo()
        self.refuses(NothingToUndo, "name", "step", ladder.undo)

    def test_many(self):
        chance = random.Random(181)
        for _ in range(60):
            book = some_book(chance, 9)
            ladder, model = Ladder(book), Model(book)
            for _ in range(40):
                some_step(chance, ladder, model)
                self.assertEqual(told(ladder), model.state())
            self.assertEqual(undone(ladder), len(model.steps))
            self.assertEqual(told(ladder), Model(book).state())


def some_step(chance, ladder, model):
    """A step of any kind, or taking one back, in a ladder and its model."""
    names, book = ladder.names(), ladder.book
    kind = chance.choice(["join", "enter", "enter", "enter", "enter", "undo", "book"])
    if kind == "join":
        name, rating = chance.choice("abcdef"), chance.randint(book.low, book.high)
        if name not in names:
            ladder.join(name, rating)
            model.steps.append(("join", name, rating))
    elif kind == "enter" and len(names) > 1:
        one, other = chance.sample(names, 2)
        result = chance.choice(RESULTS)
        ladder.enter(one, other, result)
        model.steps.append(("enter", one, other, result))
    elif kind == "undo" and model.steps:
        ladder.undo()
        model.steps.pop()
    elif kind == "book":
        other = some_book(chance, 9)
        if all(ladder[name] in other for name in names):
            ladder.rebook(other)
            model.steps.append(("book", other))


class TrialsTest(Case):
    def steps(self, ladder):
        ladder.enter("a", "b", "upper")
        ladder.join("c", 2)
        ladder.book = Book(0, 11, TABLE)
        ladder.undo()
        ladder.enter("c", "a", "draw")
        return ladder.games()

    def test_attempt(self):
        ladder = ladder_of({"a": 3, "b": 5})
        ladder.enter("a", "b", "upper")
        ahead = told(ladder)
        games = ladder.attempt(self.steps)
        self.assert_same(games[0], ("b", "a", "upper"))
        self.assertEqual(len(games), 3)
        self.assertEqual(told(ladder), ahead)
        self.assert_same(ladder.attempt(deed=lambda other: other is ladder), True)
        self.assertIsNone(ladder.attempt(lambda other: None))
        self.assertEqual(undone(ladder), 3)

    def test_trying(self):
        ladder = ladder_of({"a": 3, "b": 5})
        ahead = told(ladder)
        with ladder.trying() as tried:
            self.assertIs(tried, ladder)
            self.steps(tried)
            self.assertNotEqual(told(ladder), ahead)
        self.assertEqual(told(ladder), ahead)
        with ladder.trying():
            ladder.rebook(Book(0, 23, TABLE))
        self.assertIs(ladder.book, ahead[0])
        self.assertEqual(undone(ladder), 2)

    def test_errors_come_out(self):
        ladder = ladder_of({"a": 3, "b": 5})
        ahead = told(ladder)
        error = Oops("oops")

        def deed(tried):
            self.steps(tried)
            raise error

        with self.assertRaises(Oops) as caught:
            ladder.attempt(deed)
        self.assertIs(caught.exception, error)
        self.assertEqual(told(ladder), ahead)
        self.refuses(BadName, "name", "x", ladder.attempt, lambda tried: self.steps(tried) and tried["x"])
        self.assertEqual(told(ladder), ahead)
        for kind in (Oops, KeyboardInterrupt, StopIteration, GeneratorExit):
            with self.assertRaises(kind):
                with ladder.trying() as tried:
                    self.steps(tried)
                    raise kind
            self.assertEqual(told(ladder), ahead)
        self.assertEqual(undone(ladder), 2)

    def test_taking_back_within(self):
        ladder = ladder_of({"a": 3, "b": 5})
        ladder.enter("a", "b", "lower")
        ahead = told(ladder)
        self.assert_same(ladder.attempt(undone), 3)
        self.assertEqual(told(ladder), ahead)
        with ladder.trying():
            ladder.undo()
            ladder.undo()
            ladder.join("d", 1)
        self.assertEqual(told(ladder), ahead)
        ladder.undo()
        self.assert_same((ladder("a"), ladder("b"), ladder.games()), (3, 5, []))
        self.assertEqual(undone(ladder), 2)

    def test_one_within_another(self):
        ladder = ladder_of({"a": 3, "b": 5})
        ahead = told(ladder)
        seen = []

        def inner(tried):
            tried.undo()
            tried.join("e", 7)
            return told(tried)

        def outer(tried):
            self.steps(tried)
            between = told(tried)
            seen.append(tried.attempt(inner))
            self.assertEqual(told(tried), between)
            with self.assertRaises(Oops):
                with tried.trying():
                    tried.undo()
                    raise Oops
            self.assertEqual(told(tried), between)
            tried.undo()
            tried.undo()
            self.assert_same(tried.names(), ["a", "b"])
            return "told"

        self.assert_same(ladder.attempt(outer), "told")
        self.assertIn("e", seen[0][1])
        self.assertEqual(told(ladder), ahead)
        self.assertEqual(undone(ladder), 2)

    def test_the_block_begins_late(self):
        ladder = ladder_of({"a": 3, "b": 5})
        trial = ladder.trying()
        ladder.enter("a", "b", "upper")
        ahead = told(ladder)
        with trial:
            self.steps(ladder)
        self.assertEqual(told(ladder), ahead)

    def test_steps_behind_a_trial(self):
        ladder = ladder_of({"a": 3, "b": 5})
        ladder.attempt(self.steps)
        ladder.join("c", 9)
        ladder.enter("a", "b", "lower")
        self.assert_same(ladder.games(), [("b", "a", "lower")])
        self.assert_same(ladder["c"], (9, 0))
        self.assertEqual(undone(ladder), 4)

    def test_many(self):
        chance = random.Random(182)
        for _ in range(40):
            book = some_book(chance, 9)
            ladder, model = Ladder(book), Model(book)
            for _ in range(8):
                some_step(chance, ladder, model)
                some_trial(self, chance, ladder, model, 0)
                self.assertEqual(told(ladder), model.state())
            self.assertEqual(undone(ladder), len(model.steps))


def some_trial(case, chance, ladder, model, depth):
    """A trial of some steps, with trials within it; some end with an error."""
    inner = Model(model.first)
    inner.steps = list(model.steps)

    def deed(tried):
        for _ in range(6):
            some_step(chance, tried, inner)
            case.assertEqual(told(tried), inner.state())
            if depth < 2 and chance.random() < 0.2:
                some_trial(case, chance, tried, inner, depth + 1)
                case.assertEqual(told(tried), inner.state())
        if chance.random() < 0.3:
            raise Oops

    try:
        ladder.attempt(deed)
    except Oops:
        pass


class RefusedTest(Case):
    def setUp(self):
        self.ladder = ladder_of({"a": 3, "b": 5})
        self.ladder.enter("a", "b", "upper")
        self.ahead = told(self.ladder)

    def tearDown(self):
        self.assertEqual(told(self.ladder), self.ahead)
        self.assertEqual(undone(self.ladder), 3)

    def test_no_book(self):
        for odd in ODD + (EqualToAll(), {"low": 0}, Ladder, self.ladder):
            self.refuses(BadBook, "part", "book", Ladder, odd)
            self.refuses(BadBook, "part", "book", Ladder, book=odd)
            self.refuses(BadBook, "part", "book", self.ladder.rebook, odd)
            self.refuses(BadBook, "part", "book", setattr, self.ladder, "book", odd)

    def test_a_book_without_a_place(self):
        # a is at (2, 0), b at (6, 0).
        for book in (Book(3, 9, TABLE), Book(0, 5, TABLE), Book(7, 9, TABLE), Book(0, 1, TABLE)):
            self.refuses(BadBook, "part", "book", self.ladder.rebook, book)
            self.refuses(BadBook, "part", "book", setattr, self.ladder, "book", book)
        bonus = ladder_of({"a": 3, "b": 3}, Book(0, 9, TABLE, bonus=1))
        bonus.enter("a", "b", "upper")
        self.refuses(BadBook, "part", "book", bonus.rebook, Book(0, 9, TABLE))
        bonus.enter("b", "a", "lower")
        bonus.enter("b", "a", "lower")
        bonus.rebook(Book(0, 7, TABLE, fresh=1))
        empty = Ladder(simple_book())
        empty.rebook(Book(23, 23, TABLE))

    def test_join(self):
        for odd in NO_WORDS + ("a", "b"):
            for rating in (3, None, -1):
                self.refuses_itself(BadName, "name", odd, self.ladder.join, odd, rating)
        for odd in ODD + (-1, 10, "3", EqualToAll()):
            self.refuses_itself(BadPlace, "place", odd, self.ladder.join, "c", odd)

    def test_enter(self):
        for odd in NO_WORDS + ("c", "none"):
            for told_args in ((odd, "b", "upper"), (odd, None, None), (odd, odd, "upper"), (odd, "c", "upper")):
                self.refuses_itself(BadName, "name", odd, self.ladder.enter, *told_args)
            for told_args in (("a", odd, "upper"), ("a", odd, None)):
                self.refuses_itself(BadName, "name", odd, self.ladder.enter, *told_args)
        for result in ("upper", None, "x"):
            self.refuses(BadName, "name", "b", self.ladder.enter, "b", "b", result)
        for odd in ODD[:4] + ODD[5:] + ("Upper", "one", "win", 1, ["upper"], EqualToAll()):
            self.refuses_itself(BadGame, "value", odd, self.ladder.enter, "a", "b", odd)

    def test_names(self):
        for odd in NO_WORDS + ("c", "none"):
            self.refuses_itself(BadName, "name", odd, lambda name: self.ladder[name], odd)
            self.refuses_itself(BadName, "name", odd, self.ladder, odd)


if __name__ == "__main__":
    unittest.main()
