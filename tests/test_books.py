"""Promises: games, books as told, books refused."""

import random
import unittest

from liftedladders.books import Book
from liftedladders.errors import BadBook, BadGame, BadPlace, TooMany
from tests.support import Case, EqualToAll, ODD, simple_book, some_book

PLAIN = [(0, (1, -1), (0, 0), (-1, 1))]
ROWS = ((0, (2, -2), (0, 0), (-3, 3)), (2, (1, -1), None, (-4, 5)), (23, None, (0, 9), (-9, 9)))
WHOLE_ROW = (0, (1, -1), (0, 0), (-1, 1))


def told_game(book, upper, lower, result):
    """What the definitions tell of a game, written in another way."""
    entries = {}
    for border, win, draw, loss in book.table:
        if border <= upper[0] - lower[0]:
            entries = {"upper": win, "draw": draw, "lower": loss}
    if entries[result] is None:
        return None
    behind = []
    for (rating, phase), change, own in ((upper, entries[result][0], "upper"), (lower, entries[result][1], "lower")):
        wins = result == own
        factor = book.times if book.fresh and phase else 1
        more = book.bonus if book.bonus and wins and phase == 1 else 0
        rating = sorted([book.low, rating + change * factor + more, book.high])[1]
        if book.bonus:
            behind.append((rating, int(wins)))
        else:
            behind.append((rating, phase - 1 if phase else 0))
    return tuple(behind)


class GamesTest(Case):
    def test_document(self):
        book = simple_book()
        self.assert_same([book.game((1, 0), (0, 0), "upper"), book.game((0, 0), (0, 0), "lower"), book.places()],
                         [((2, 0), (0, 0)), ((0, 0), (1, 0)), [(0, 0), (1, 0), (2, 0)]])

    def test_all_games_of_many_books(self):
        chance = random.Random(5)
        for _ in range(60):
            book = some_book(chance)
            for upper in book.places():
                for lower in book.places():
                    for result in ("upper", "draw", "lower"):
                        if lower[0] > upper[0]:
                            self.refuses(BadGame, "value", lower, book.game, upper, lower, result)
                        else:
                            self.assert_same(book.game(upper, lower, result), told_game(book, upper, lower, result))

    def test_rows_hold_from_their_border(self):
        book = Book(0, 23, list(ROWS))
        self.assert_same(book.game((11, 0), (10, 0), "lower"), ((8, 0), (13, 0)))
        self.assert_same(book.game((12, 0), (10, 0), "lower"), ((8, 0), (15, 0)))
        self.assertIsNone(book.game((12, 0), (10, 0), "draw"))
        self.assert_same(book.game((22, 0), (0, 0), "upper"), ((23, 0), (0, 0)))
        self.assertIsNone(book.game((23, 0), (0, 0), "upper"))
        self.assert_same(book.game(upper=(23, 0), lower=(0, 0), result="draw"), ((23, 0), (9, 0)))
        self.assert_same(book.game((23, 0), (0, 0), "lower"), ((14, 0), (9, 0)))

    def test_floor_and_ceiling(self):
        book = Book(2, 5, [(0, (9, -9), (-9, 9), (1, -1))])
        self.assert_same(book.game((4, 0), (3, 0), "upper"), ((5, 0), (2, 0)))
        self.assert_same(book.game((4, 0), (3, 0), "draw"), ((2, 0), (5, 0)))
        self.assert_same(book.game((5, 0), (2, 0), "lower"), ((5, 0), (2, 0)))
        self.assert_same(book.game((4, 0), (3, 0), "lower"), ((5, 0), (2, 0)))

    def test_newcomers(self):
        book = Book(0, 7, [(0, (1, -1), (1, 0), (-2, 2))], fresh=2, times=3)
        self.assert_same(book.start(4), (4, 2))
        self.assert_same(book.game((4, 2), (4, 0), "upper"), ((7, 1), (3, 0)))
        self.assert_same(book.game((4, 1), (4, 2), "upper"), ((7, 0), (1, 1)))
        self.assert_same(book.game((4, 0), (4, 1), "upper"), ((5, 0), (1, 0)))
        self.assert_same(book.game((4, 1), (4, 1), "lower"), ((0, 0), (7, 0)))
        self.assert_same(book.game((4, 0), (4, 2), "draw"), ((5, 0), (4, 1)))

    def test_bonus(self):
        book = Book(0, 9, [(0, (1, -1), (1, 1), (-2, 2)), (3, None, None, (-1, 3))], bonus=2)
        self.assert_same(book.start(4), (4, 0))
        self.assert_same(book.game((4, 0), (4, 1), "upper"), ((5, 1), (3, 0)))
        self.assert_same(book.game((5, 1), (3, 0), "upper"), ((8, 1), (2, 0)))
        self.assert_same(book.game((5, 1), (3, 1), "draw"), ((6, 0), (4, 0)))
        self.assert_same(book.game((5, 1), (3, 1), "lower"), ((3, 0), (7, 1)))
        self.assert_same(book.game((8, 1), (5, 1), "lower"), ((7, 0), (9, 1)))
        self.assertIsNone(book.game((8, 1), (5, 1), "upper"))

    def test_equal_ratings_with_unlike_phases(self):
        book = Book(0, 5, [(0, (1, -1), None, (-1, 2))], bonus=1)
        self.assert_same(book.game((3, 0), (3, 1), "lower"), ((2, 0), (5, 1)))
        self.assert_same(book.game((3, 1), (3, 0), "upper"), ((5, 1), (2, 0)))
        self.assert_same(book.game((3, 0), (3, 0), "upper"), ((4, 1), (2, 0)))

    def test_refused_in_order(self):
        book = Book(1, 4, PLAIN, fresh=1)
        for odd in ODD + ((5, 0), (0, 0), (1, 2), (1, -1), (1,), (1, 0, 0), 1, EqualToAll()):
            self.refuses(BadPlace, "place", odd, book.game, odd, "x", "y")
            self.refuses(BadPlace, "place", odd, book.game, (1, 0), odd, "y")
        for odd in ODD[:4] + ODD[5:] + ("Upper", "upper ", "win", 1, ["upper"], EqualToAll()):
            self.refuses(BadGame, "value", odd, book.game, (1, 0), (4, 1), odd)
        self.refuses(BadGame, "value", (4, 1), book.game, (1, 0), (4, 1), "draw")
        self.assertIsNotNone(book.game((4, 0), (4, 1), "draw"))


class ToldTest(Case):
    def test_attributes(self):
        book = Book(3, 9, list(ROWS), fresh=2, times=3)
        self.assert_same((book.low, book.high, book.table, book.fresh, book.times, book.bonus), (3, 9, ROWS, 2, 3, 0))
        book = Book(low=0, high=11, table=ROWS, bonus=5)
        self.assert_same((book.low, book.high, book.table, book.fresh, book.times, book.bonus), (0, 11, ROWS, 0, 1, 5))

    def test_named_only(self):
        with self.assertRaises(TypeError):
            Book(0, 2, PLAIN, 1)

    def test_places(self):
        self.assert_same(Book(7, 7, PLAIN).places(), [(7, 0)])
        self.assert_same(Book(1, 2, PLAIN, fresh=2).places(), [(1, 0), (1, 1), (1, 2), (2, 0), (2, 1), (2, 2)])
        self.assert_same(Book(1, 2, PLAIN, bonus=1).places(), [(1, 0), (1, 1), (2, 0), (2, 1)])
        chance = random.Random(6)
        for _ in range(40):
            book = some_book(chance)
            self.assert_same(book.places(), sorted(set(book.places())))
            self.assertEqual(len(book), len(book.places()))
            for rating in range(-1, 25):
                for phase in range(-1, 4):
                    self.assert_truth((rating, phase) in book, (rating, phase) in book.places())
            for odd in ODD + ([book.low, 0], (book.low,), (book.low, 0, 0), book.low):
                self.assert_truth(odd in book, False)

    def test_true_is_no_rating(self):
        book = Book(0, 1, PLAIN, fresh=1)
        for odd in ((True, 0), (1, False), (False, 0), (0, True)):
            self.assert_truth(odd in book, False)

    def test_start(self):
        for book, phase in ((Book(1, 3, PLAIN), 0), (Book(1, 3, PLAIN, fresh=2), 2), (Book(1, 3, PLAIN, bonus=2), 0)):
            for rating in (1, 2, 3):
                self.assert_same(book.start(rating), (rating, phase))
            for odd in ODD + (0, 4, -1, 10 ** 30):
                self.refuses(BadPlace, "place", odd, book.start, odd)

    def test_row_by_difference(self):
        book = Book(0, 3, ROWS)
        for difference in (0, 1, 2, 22, 23, 24, 10 ** 30):
            self.assert_same(book[difference], ROWS[0 if difference < 2 else 1 if difference < 23 else 2])
        for odd in ODD + (-1, -10 ** 30):
            self.refuses(BadGame, "value", odd, book.__getitem__, odd)

    def test_changed(self):
        book = Book(1, 4, ROWS, fresh=1, times=2)
        self.assertEqual(book.changed("low", 0), Book(0, 4, ROWS, fresh=1, times=2))
        self.assertEqual(book.changed("high", 1), Book(1, 1, ROWS, fresh=1, times=2))
        self.assertEqual(book.changed(part="table", value=PLAIN), Book(1, 4, PLAIN, fresh=1, times=2))
        self.assertEqual(book.changed("fresh", 2), Book(1, 4, ROWS, fresh=2, times=2))
        self.assertEqual(book.changed("times", 1), Book(1, 4, ROWS, fresh=1, times=1))
        self.assertEqual(Book(1, 4, ROWS).changed("bonus", 3), Book(1, 4, ROWS, bonus=3))
        self.assertEqual(book, Book(1, 4, ROWS, fresh=1, times=2))

    def test_changed_refused(self):
        book = Book(1, 4, ROWS, fresh=1, times=2)
        for odd in ODD + ("Low", "row", "places", ["low"], EqualToAll()):
            self.refuses(BadBook, "part", odd, book.changed, odd, 99)
        self.refuses(BadBook, "part", "low", book.changed, "low", True)
        self.refuses(BadBook, "part", "high", book.changed, "low", 5)
        self.refuses(BadBook, "part", "high", book.changed, "high", 0)
        self.refuses(BadBook, "part", "table", book.changed, "table", [])
        self.refuses(BadBook, "part", "times", book.changed, "fresh", 0)
        self.refuses(BadBook, "part", "bonus", book.changed, "bonus", 1)
        self.refuses(TooMany, "limit", 24, Book(0, 23, ROWS).changed, "bonus", 1)

    def test_equal(self):
        parts = (0, 5, ROWS, 2, 2, 0)
        book = Book(0, 5, ROWS, fresh=2, times=2)
        self.assert_truth(book == Book(0, 5, list(ROWS), fresh=2, times=2), True)
        self.assert_truth(book != Book(0, 5, list(ROWS), fresh=2, times=2), False)
        for part, value in (("low", 1), ("high", 6), ("table", PLAIN), ("fresh", 1), ("times", 3)):
            self.assert_truth(book == book.changed(part, value), False)
            self.assert_truth(book != book.changed(part, value), True)
        self.assert_truth(Book(0, 5, ROWS) == Book(0, 5, ROWS, bonus=1), False)
        for odd in ODD + (parts, list(parts)):
            self.assert_truth(book == odd, False)
            self.assert_truth(odd == book, False)
            self.assert_truth(book != odd, True)

    def test_told_lists_change_nothing(self):
        table = list(ROWS)
        book = Book(0, 5, table)
        table.pop()
        table[0] = WHOLE_ROW
        self.assert_same(book.table, ROWS)
        book.places().clear()
        self.assertEqual(len(book.places()), 6)
        more = list(ROWS)
        other = book.changed("table", more)
        more.clear()
        self.assertEqual(other, book)

    def test_not_iterated(self):
        book = simple_book()
        for call in (iter, list, tuple, lambda it: [*it], lambda it: max(it), lambda it: [row for row in it]):
            with self.assertRaises(TypeError):
                call(book)


class RefusedTest(Case):
    def test_low_and_high(self):
        for odd in ODD + (-1, 24, 10 ** 30):
            self.refuses(BadBook, "part", "low", Book, odd, None, None, fresh=None)
            self.refuses(BadBook, "part", "high", Book, 0, odd, None, fresh=None)
        self.refuses(BadBook, "part", "high", Book, 5, 4, PLAIN)
        self.assertEqual(len(Book(0, 23, PLAIN)), 24)
        self.assertEqual(len(Book(23, 23, PLAIN)), 1)

    def test_tables(self):
        rows = [(border, None, None, None) for border in range(0, 12, 2)]
        for table in (rows, tuple(rows), rows[:1], [(0, None, (9, -9), (-9, 9)), (23, (0, 0), None, None)]):
            self.assert_same(Book(0, 3, table).table, tuple(table))
        self.refuses(BadBook, "part", "table", Book, 0, 3, [], times=None)
        self.refuses(BadBook, "part", "table", Book, 0, 3, rows + [(20, None, None, None)])
        for odd in ODD:
            self.refuses(BadBook, "part", "table", Book, 0, 3, odd, fresh=None)

    def test_borders(self):
        for borders in ((1,), (0, 0), (0, 3, 2), (0, 3, 3), (0, 24), (0, -1), (-1, 0), (0, True), (False, 3)):
            table = [(border, None, None, None) for border in borders]
            self.refuses(BadBook, "part", "table", Book, 0, 3, table)
        for odd in ODD:
            self.refuses(BadBook, "part", "table", Book, 0, 3, [(odd, None, None, None)])

    def test_rows(self):
        for odd in ODD + (list(WHOLE_ROW), WHOLE_ROW[:3], WHOLE_ROW + (None,), 0, {}):
            self.refuses(BadBook, "part", "table", Book, 0, 3, [odd])
            self.refuses(BadBook, "part", "table", Book, 0, 3, [WHOLE_ROW, odd])

    def test_entries(self):
        for odd in ODD[1:] + ([1, -1], (1,), (1, -1, 0), (10, 0), (0, 10), (-10, 0), (0, -10), (1, True), 3):
            for at in (1, 2, 3):
                row = list(WHOLE_ROW)
                row[at] = odd
                self.refuses(BadBook, "part", "table", Book, 0, 3, [tuple(row)])

    def test_fresh_times_bonus(self):
        for odd in ODD + (-1, 3, 10 ** 30):
            self.refuses(BadBook, "part", "fresh", Book, 0, 3, PLAIN, fresh=odd, times=None, bonus=None)
        for odd in ODD + (0, 4, -1):
            self.refuses(BadBook, "part", "times", Book, 0, 3, PLAIN, fresh=1, times=odd, bonus=None)
        for odd in ODD + (0, 2, 3):
            self.refuses(BadBook, "part", "times", Book, 0, 3, PLAIN, times=odd, bonus=None)
        for odd in ODD + (-1, 6):
            self.refuses(BadBook, "part", "bonus", Book, 0, 3, PLAIN, bonus=odd)
        for odd in ODD + (1, 5):
            self.refuses(BadBook, "part", "bonus", Book, 0, 3, PLAIN, fresh=1, bonus=odd)
        self.assertEqual(Book(0, 3, PLAIN, fresh=2, times=3, bonus=0).fresh, 2)
        self.assertEqual(Book(0, 3, PLAIN, bonus=5, times=1).bonus, 5)

    def test_too_many(self):
        self.assertEqual(len(Book(0, 11, PLAIN, fresh=1)), 24)
        self.assertEqual(len(Book(12, 23, PLAIN, bonus=1)), 24)
        self.assertEqual(len(Book(0, 7, PLAIN, fresh=2)), 24)
        self.refuses(TooMany, "limit", 24, Book, 0, 12, PLAIN, fresh=1)
        self.refuses(TooMany, "limit", 24, Book, 0, 12, PLAIN, bonus=1)
        self.refuses(TooMany, "limit", 24, Book, 0, 8, PLAIN, fresh=2)
        self.refuses(BadBook, "part", "bonus", Book, 0, 8, PLAIN, fresh=2, bonus=6)


if __name__ == "__main__":
    unittest.main()
