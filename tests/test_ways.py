"""Promises: ways as told, ways refused."""

import random
import unittest

from liftedladders.books import Book
from liftedladders.errors import BadBook, BadMove, BadPlace, TooMany
from liftedladders.ways import Ways, games_of, is_move, ways_of
from tests.support import Case, ODD, simple_book, some_book

A, B, C = (0,), (1, -5), (2, 3, 10 ** 30)
ONE = ((A,), "", (B,))
TWO = ((A, A), "two", (B, C))
FOUR = ((A, B, C, C), "four", (C, C, C, A))
MOVES = (ONE, TWO, FOUR, ONE)
NO_MOVES = ODD + (
    [*ONE], ((A,), ""), ((A,), "", (B,), None), ([A], "", (B,)), ((A,), "", [B]), ((A,), b"", (B,)), ((A,), None, (B,)),
    ((A,), True, (B,)), ((), "", ()), ((A,), "", ()), ((A,), "", (A, B)), ((A, B), "", (A,)),
    ((A, B, C), "", (A, B, C)), ((A,) * 8, "", (A,) * 8), (([0],), "", (A,)), ((A,), "", ((),)),
    (((True,),), "", (A,)), ((A,), "", ((False,),)), (((0, "1"),), "", (A,)), ((0,), "", (A,)), ((None,), "", (A,)))


class MovesTest(Case):
    def test_is_move(self):
        for move in MOVES + (((B, B), "upper", (B, B)), (((10 ** 30,),), "x y", ((-1, -2, -3),))):
            self.assert_truth(is_move(move), True)
        for odd in NO_MOVES:
            self.assert_truth(is_move(odd), False)
        self.assert_truth(is_move(value=ONE), True)


class ToldTest(Case):
    def test_told(self):
        for kind in (list, tuple):
            ways = Ways(kind([C, A, B]), kind(MOVES))
            self.assert_same(ways.places(), [A, B, C])
            self.assert_same(ways.moves(), list(MOVES))
            self.assertEqual(len(ways), 4)
            self.assert_same([ways[index] for index in range(4)], list(MOVES))
        ways = Ways(places=[A], moves=[])
        self.assert_same((ways.places(), ways.moves(), len(ways)), ([A], [], 0))

    def test_places_ascend(self):
        places = [(2,), (1, 5), (1,), (-3, 7), (1, -5), (10 ** 30,)]
        self.assert_same(Ways(places, []).places(), [(-3, 7), (1,), (1, -5), (1, 5), (2,), (10 ** 30,)])

    def test_in(self):
        ways = Ways([A, B, (1, 0)], MOVES[:1])
        for place in (A, B, (1, 0)):
            self.assert_truth(place in ways, True)
        for odd in NO_MOVES + (C, [0], (False,), (True, 0), (1, False), 0, (0, 0), ONE):
            self.assert_truth(odd in ways, False)

    def test_index_refused(self):
        ways = Ways([A, B, C], MOVES)
        for odd in ODD + (-1, 4, -4, 10 ** 30, ONE):
            self.refuses(BadMove, "index", odd, ways.__getitem__, odd)
        self.refuses(BadMove, "index", 0, Ways([A], []).__getitem__, 0)

    def test_within(self):
        ways = Ways([A, B, C], MOVES)
        self.assert_same(ways.within([A]), [0, 1, 3])
        self.assert_same(ways.within((C, A, B, A)), [0, 1, 2, 3])
        self.assert_same(ways.within(places=[B, C]), [])
        self.assert_same(ways.within([]), [])
        self.assert_same(ways.within([A, (9, 9)]), [0, 1, 3])

    def test_added(self):
        ways = Ways([A, B, C], MOVES[:2])
        for kind in (list, tuple):
            more = ways + kind(MOVES[2:])
            self.assertIsInstance(more, Ways)
            self.assert_same((more.places(), more.moves()), ([A, B, C], list(MOVES)))
        self.assert_same(ways.moves(), list(MOVES[:2]))
        self.assertEqual(ways + [], ways)

    def test_added_refused(self):
        ways = Ways([A, B], MOVES[:1])
        for odd in ODD + ({0: ONE}, ways, "ab", ONE[0][0]):
            if not isinstance(odd, (list, tuple)):
                self.refuses(BadMove, "index", None, ways.__add__, odd)
        for odd in NO_MOVES + (TWO,):
            self.refuses(BadMove, "index", 1, ways.__add__, [ONE, odd, None])
        full = ways + [ONE] * 2998
        self.assertEqual(len(full + [ONE]), 3000)
        self.refuses(TooMany, "limit", 3000, full.__add__, [ONE, ONE])
        self.refuses(BadMove, "index", 1, full.__add__, [ONE, TWO])

    def test_equal(self):
        ways = Ways([A, B, C], MOVES)
        self.assert_truth(ways == Ways((C, B, A), tuple(MOVES)), True)
        self.assert_truth(ways != Ways((C, B, A), tuple(MOVES)), False)
        for other in (Ways([A, B, C, (9,)], MOVES), Ways([A, B, C], MOVES[:3]), Ways([A, B, C], MOVES[::-1][:3]),
                      Ways([A, B, C], (TWO, ONE, FOUR, ONE))):
            self.assert_truth(ways == other, False)
            self.assert_truth(ways != other, True)
        for odd in ODD + (list(MOVES), [A, B, C]):
            self.assert_truth(ways == odd, False)
            self.assert_truth(odd == ways, False)

    def test_told_lists_change_nothing(self):
        places, moves, more = [A, B, C], list(MOVES), [FOUR]
        ways = Ways(places, moves)
        longer = ways + more
        for row in (places, moves, more, ways.places(), ways.moves(), ways.within([A]), longer.moves()):
            row.clear()
        self.assertEqual(ways, Ways([A, B, C], MOVES))
        self.assertEqual(longer, Ways([A, B, C], MOVES + (FOUR,)))

    def test_not_iterated(self):
        ways = Ways([A, B, C], MOVES)
        for call in (iter, list, tuple, lambda it: [*it], lambda it: [move for move in it]):
            with self.assertRaises(TypeError):
                call(ways)


class RefusedTest(Case):
    def test_places(self):
        for odd in (None, True, "ab", {}, {A: 1}, 0, [], (), b"x", object()):
            self.refuses(BadPlace, "place", None, Ways, odd, None)
        for odd in ODD + ([0], 0, (), (True,), (0, False), ((0,),)):
            self.refuses(BadPlace, "place", odd, Ways, [A, odd, B, None], None)
        self.refuses(BadPlace, "place", B, Ways, [A, B, C, B, A], None)
        self.refuses(BadPlace, "place", (True,), Ways, [(1,), (True,)], None)

    def test_too_many_places(self):
        places = [(number,) for number in range(25)]
        self.assertEqual(len(Ways(places[:24], []).places()), 24)
        self.refuses(TooMany, "limit", 24, Ways, places, None)
        self.refuses(BadPlace, "place", (3,), Ways, places + [(3,)], None)
        self.refuses(BadPlace, "place", 7, Ways, places + [7], None)

    def test_moves(self):
        for odd in (None, True, "ab", {}, {0: ONE}, 0, b"x", object()):
            self.refuses(BadMove, "index", None, Ways, [A, B], odd)
        for odd in NO_MOVES + (((C,), "", (A,)), ((A,), "", (C,)), ((A, A), "", (A, (9,)))):
            self.refuses(BadMove, "index", 0, Ways, [A, B], [odd])
            self.refuses(BadMove, "index", 2, Ways, [A, B], [ONE, ONE, odd, odd])

    def test_too_many_moves(self):
        self.assertEqual(len(Ways([A, B], [ONE] * 3000)), 3000)
        self.refuses(TooMany, "limit", 3000, Ways, [A, B], [ONE] * 3001)
        self.refuses(BadMove, "index", 3001, Ways, [A, B], [ONE] * 3001 + [TWO])


class BooksTest(Case):
    def test_games_of_document(self):
        moves = list(games_of(simple_book()))
        self.assertEqual(len(moves), 18)
        self.assert_same(moves[:5], [(((0, 0), (0, 0)), "upper", ((1, 0), (0, 0))),
                                     (((0, 0), (0, 0)), "draw", ((0, 0), (0, 0))),
                                     (((0, 0), (0, 0)), "lower", ((0, 0), (1, 0))),
                                     (((1, 0), (0, 0)), "upper", ((2, 0), (0, 0))),
                                     (((1, 0), (0, 0)), "draw", ((1, 0), (0, 0)))])

    def test_games_of_many_books(self):
        chance = random.Random(7)
        for _ in range(60):
            book = some_book(chance)
            moves = []
            for upper in sorted(book.places()):
                for lower in sorted(book.places()):
                    for result in ("upper", "draw", "lower"):
                        if upper[0] >= lower[0] and book.game(upper, lower, result) is not None:
                            moves.append(((upper, lower), result, book.game(upper, lower, result)))
            self.assert_same(list(games_of(book=book)), moves)
            ways = ways_of(book)
            self.assertEqual(ways, Ways(book.places(), moves))
            self.assert_same(ways.moves(), moves)

    def test_equal_ratings_in_both_orders(self):
        book = Book(0, 0, [(0, (1, 1), None, None)], bonus=1)
        pairs = [move[0] for move in games_of(book)]
        self.assert_same(pairs, [((0, 0), (0, 0)), ((0, 0), (0, 1)), ((0, 1), (0, 0)), ((0, 1), (0, 1))])

    def test_generator(self):
        games = games_of(simple_book())
        self.assertIs(iter(games), games)
        self.assertEqual(next(games)[1], "upper")

    def test_no_games(self):
        book = Book(0, 3, [(0, None, None, None)])
        self.assert_same(list(games_of(book)), [])
        self.assert_same((ways_of(book).places(), ways_of(book).moves()), (book.places(), []))

    def test_ways_of_refused(self):
        for odd in ODD + (0, Ways([A], []), [simple_book()]):
            self.refuses(BadBook, "part", "book", ways_of, odd)
        self.assertEqual(ways_of(book=simple_book()), ways_of(simple_book()))


if __name__ == "__main__":
    unittest.main()
