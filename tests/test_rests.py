"""Promises: rows of results told again and again, where they lead and whether they rest; errors in order."""

from itertools import product
import random
import unittest

from liftedladders.books import Book
from liftedladders.bouts import Day, after_day
from liftedladders.errors import BadPlace, BadRow
from liftedladders.rests import course, resting, restless, rests, row_behind
from tests.support import Case, EqualToAll, ODD, simple_book, some_book

OUTCOMES = ("one", "draw", "other")


def told_behind(book, pair, row):
    """Both places behind a row, by a day of its bouts."""
    return after_day(book, pair, Day([(0, 1, outcome) for outcome in row]))


def told_course(book, pair, row):
    """The tuple (lead, ring), by the list of the pairs ahead of the rows."""
    pairs = [pair]
    while told_behind(book, pairs[-1], row) not in pairs:
        pairs.append(told_behind(book, pairs[-1], row))
    lead = pairs.index(told_behind(book, pairs[-1], row))
    return (lead, len(pairs) - lead)


def some_row(chance):
    return [chance.choice(OUTCOMES) for _ in range(chance.randint(1, 6))]


class RowsTest(Case):
    def test_row_behind(self):
        book = simple_book()
        zero, one, two = book.places()
        for first, second, row, behind in ((zero, zero, ["one"], (one, zero)), (zero, zero, ["other"], (zero, one)),
                                           (zero, zero, ["one", "other"], (zero, one)), (two, two, ["draw"], (two, two)),
                                           (zero, two, ["one"], (one, one)), (zero, two, ["one"] * 6, (two, zero)),
                                           (one, one, ["one", "other"], (one, one))):
            self.assert_same(row_behind(book, first, second, row), behind)
            self.assert_same(row_behind(row=tuple(row), other=second, one=first, book=book), behind)

    def test_course(self):
        book = Book(0, 5, [(0, (1, -1), (0, 0), (-1, 1))])
        at = [(rating, 0) for rating in range(6)]
        for first, second, row, told in ((0, 0, ["draw"], (0, 1)), (0, 0, ["one"], (5, 1)), (5, 0, ["one"], (0, 1)),
                                         (0, 5, ["one"], (5, 1)), (2, 2, ["one", "other"], (0, 1)),
                                         (5, 5, ["one", "other"], (1, 1)), (3, 3, ["other"] * 6, (1, 1))):
            self.assert_same(course(book, at[first], at[second], row), told)
            self.assert_same(course(row=row, other=at[second], one=at[first], book=book), told)
            self.assert_truth(rests(book, at[first], at[second], row), True)
        # Equal ones: the first goes one up, and one above the other it goes one down.
        round_book = Book(0, 5, [(0, (1, 0), None, None), (1, (-1, 0), None, None)])
        self.assert_same(course(round_book, (2, 0), (2, 0), ["one"]), (0, 2))
        self.assert_same(course(round_book, (5, 0), (2, 0), ["one"]), (2, 2))
        self.assert_same(course(round_book, (2, 0), (2, 0), ["one", "one"]), (0, 1))
        self.assert_same(course(round_book, (2, 0), (2, 0), ["one"] * 3), (0, 2))
        self.assert_truth(rests(round_book, (2, 0), (2, 0), ["one"]), False)
        self.assert_truth(rests(row=("one", "one"), other=(2, 0), one=(2, 0), book=round_book), True)
        self.assert_truth(rests(round_book, (5, 0), (5, 0), ["draw"]), True)

    def test_many(self):
        chance = random.Random(97)
        rings = set()
        for _ in range(150):
            book, row = some_book(chance), some_row(chance)
            pair = (chance.choice(book.places()), chance.choice(book.places()))
            told = told_course(book, pair, row)
            self.assert_same(row_behind(book, *pair, row), told_behind(book, pair, row))
            self.assert_same(course(book, *pair, row), told)
            self.assert_truth(rests(book, *pair, row), told[1] == 1)
            rings.add(told[1])
        self.assertGreater(len(rings), 3)

    def test_all_pairs(self):
        chance = random.Random(98)
        found = {True: 0, False: 0}
        for _ in range(60):
            book, row = some_book(chance, 7), some_row(chance)[:chance.choice([1, 6])]
            pairs = list(product(book.places(), repeat=2))
            round_pairs = [pair for pair in pairs if told_course(book, pair, row)[1] > 1]
            self.assert_same(restless(book, row), round_pairs[0] if round_pairs else None)
            self.assert_same(resting(book, row), [pair for pair in pairs if told_behind(book, pair, row) == pair])
            found[bool(round_pairs)] += 1
        self.assertGreater(min(found.values()), 3)

    def test_of_a_book(self):
        book = simple_book()
        zero, one, two = book.places()
        self.assertIsNone(restless(book, ["one"]))
        self.assert_same(resting(row=("one",), book=book), [(two, zero)])
        self.assert_same(resting(book, ["draw"]), list(product(book.places(), repeat=2)))
        self.assert_same(resting(book, ["one", "other"]), [(zero, one), (zero, two), (one, one), (one, two)])
        round_book = Book(0, 2, [(0, (1, 0), None, None), (1, (-1, 0), None, None)])
        self.assert_same(restless(row=["one"], book=round_book), (zero, zero))
        self.assert_same(resting(round_book, ["one"]), [(zero, one), (zero, two), (one, two), (two, two)])
        self.assertIsNone(restless(round_book, ["one", "one"]))
        self.assertIsNone(restless(Book(3, 3, [(0, (9, -9), None, None)]), ["one"] * 6))

    def test_a_late_round(self):
        # The least pair that goes round is one that comes into the ring late.
        book = Book(0, 9, [(0, (2, 1), None, None), (2, (-2, 0), None, None)])
        row = ["one"]
        told = [pair for pair in product(book.places(), repeat=2) if told_course(book, pair, row)[1] > 1]
        self.assert_same(restless(book, row), told[0] if told else None)

    def test_with_phases(self):
        for book in (Book(0, 3, [(0, (1, -1), None, (-1, 1))], bonus=2),
                     Book(0, 3, [(0, (1, -1), (0, 1), (-1, 1))], fresh=2, times=3)):
            for row in (["one"], ["one", "other"], ["draw", "one", "other", "other"]):
                pairs = list(product(book.places(), repeat=2))
                for pair in pairs:
                    self.assert_same(course(book, *pair, row), told_course(book, pair, row))
                round_pairs = [pair for pair in pairs if told_course(book, pair, row)[1] > 1]
                self.assert_same(restless(book, row), round_pairs[0] if round_pairs else None)
                self.assert_same(resting(book, row), [pair for pair in pairs if told_behind(book, pair, row) == pair])

    def test_again(self):
        first = resting(simple_book(), ["draw"])
        first.clear()
        self.assertEqual(len(resting(simple_book(), ["draw"])), 9)
        row = ["one", "draw"]
        for call in (row_behind, course, rests):
            call(simple_book(), (0, 0), (0, 0), row)
        restless(simple_book(), row)
        resting(simple_book(), row)
        self.assert_same(row, ["one", "draw"])


class RefusedTest(Case):
    def test_no_row(self):
        for odd in (None, [], (), {}, {"one": 1}, {"one"}, "one", "", 0, True, object(), ["one"] * 7, ("one",) * 7,
                    [None] * 7, EqualToAll()):
            for call in (restless, resting):
                self.refuses_itself(BadRow, "index", None, call, simple_book(), odd)
            for call in (row_behind, course, rests):
                for places in (((0, 0), (0, 0)), (None, None), ((0, 0), None)):
                    self.refuses_itself(BadRow, "index", None, call, simple_book(), *places, odd)

    def test_no_results(self):
        for odd in ODD + ("", "One", "upper", "lower", ["one"], 0, EqualToAll()):
            for index in range(6):
                row = ["one", "draw", "other", "one", "one"][:index] + [odd]
                for told in (row, tuple(row), (row + [None, odd])[:6]):
                    for call in (restless, resting):
                        self.refuses_itself(BadRow, "index", index, call, simple_book(), told)
                    for call in (row_behind, course, rests):
                        self.refuses_itself(BadRow, "index", index, call, simple_book(), None, None, told)

    def test_no_places(self):
        for odd in ODD + ((3, 0), (0, 1), (False, 0), (0, False), [0, 0], 0, (0,), EqualToAll()):
            for call in (row_behind, course, rests):
                self.refuses_itself(BadPlace, "place", odd, call, simple_book(), odd, (0, 0), ["one"])
                self.refuses_itself(BadPlace, "place", odd, call, simple_book(), odd, None, ["one"])
                self.refuses_itself(BadPlace, "place", odd, call, simple_book(), (0, 0), odd, ["one"])


if __name__ == "__main__":
    unittest.main()
