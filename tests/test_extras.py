"""Promises: resets, fades and games of teams as the definition has them, and whether moves feed a lift."""

import inspect
import random
import time
import unittest

from liftedladders.books import Book
from liftedladders.errors import BadBook, BadGame, BadMove, BadNumber, BadPlace, BadWorths, TooMany, UnknownPlace
from liftedladders.extras import fade_moves, feeds, reset_moves, team_game, team_moves
from liftedladders.numbers import is_above
from liftedladders.shares import greatest
from liftedladders.ways import Ways, is_move, ways_of
from tests.support import Case, EqualToAll, ODD, many_ways, simple_book, some_book

RESULTS = ("upper", "draw", "lower")
TABLE = [(0, (3, -3), (1, -1), (-5, 5)), (2, None, (-1, 2), (-4, 3)), (5, (1, -2), None, (-9, 9))]


def plain_book(low=0, high=9):
    return Book(low, high, TABLE)


def at(*ratings):
    return tuple((rating, 0) for rating in ratings)


def toward(middle, part, rating):
    """The rating behind a reset, one rating after the other."""
    distance = 0
    while (distance + 1) * part <= abs(rating - middle):
        distance += 1
    return middle + distance if rating >= middle else middle - distance


def told_team_game(book, upper, lower, result):
    """The places behind a game of teams by the definition."""
    difference = (upper[0][0] + upper[1][0]) // 2 - (lower[0][0] + lower[1][0]) // 2
    entry = book[difference][1 + RESULTS.index(result)]
    if entry is None:
        return None
    places = []
    for team, change in ((upper, entry[0]), (lower, entry[1])):
        half = int(change / 2)
        for place, part in zip(team, (change - half, half)):
            places.append((min(max(place[0] + part, book.low), book.high), 0))
    return tuple(places)


def all_teams(book):
    return [(one, other) for one in book.places() for other in book.places() if one <= other]


class ResetsTest(Case):
    def test_told(self):
        book = plain_book()
        told = {move[0]: move[2] for move in reset_moves(book, 4, 2)}
        self.assert_same(told[at(7)], at(5))
        self.assert_same(told[at(1)], at(3))
        self.assert_same(reset_moves(book, 4, 2),
                         [(at(one), "reset", at(two)) for one, two in
                          ((0, 2), (1, 3), (2, 3), (3, 4), (5, 4), (6, 5), (7, 5), (8, 6), (9, 6))])
        self.assert_same(reset_moves(part=9, middle=0, book=book),
                         [(at(one), "reset", at(two)) for one, two in
                          ((1, 0), (2, 0), (3, 0), (4, 0), (5, 0), (6, 0), (7, 0), (8, 0), (9, 1))])
        self.assert_same(reset_moves(book, 9, 3)[:4],
                         [(at(one), "reset", at(two)) for one, two in ((0, 6), (1, 7), (2, 7), (3, 7))])
        self.assert_same(reset_moves(Book(5, 5, TABLE), 5, 2), [])

    def test_phases_stay(self):
        book = Book(1, 3, TABLE, fresh=2)
        self.assert_same(reset_moves(book, 1, 2),
                         [(((rating, phase),), "reset", ((behind, phase),)) for rating, behind in ((2, 1), (3, 2))
                          for phase in range(3)])
        self.assert_same(fade_moves(book, 2), [(((3, phase),), "fade", ((2, phase),)) for phase in range(3)])

    def test_fades(self):
        book = plain_book(3, 8)
        self.assert_same(fade_moves(book, 6), [(at(7), "fade", at(6)), (at(8), "fade", at(7))])
        self.assert_same(fade_moves(above=3, book=book),
                         [(at(rating), "fade", at(rating - 1)) for rating in range(4, 9)])
        self.assert_same(fade_moves(book, 8), [])

    def test_many(self):
        chance = random.Random(141)
        for _ in range(150):
            book = some_book(chance)
            middle, part = chance.randint(book.low, book.high), chance.randint(2, 9)
            behind = {place: (toward(middle, part, place[0]), place[1]) for place in book.places()}
            self.assert_same(reset_moves(book, middle, part),
                             [((place,), "reset", (behind[place],)) for place in book.places() if behind[place] != place])
            faded = {place: (place[0] - (place[0] > middle), place[1]) for place in book.places()}
            self.assert_same(fade_moves(book, middle),
                             [((place,), "fade", (faded[place],)) for place in book.places() if faded[place] != place])
            Ways(book.places(), reset_moves(book, middle, part) + fade_moves(book, middle))

    def test_told_lists_are_new(self):
        book = plain_book()
        for call in (lambda: reset_moves(book, 4, 2), lambda: fade_moves(book, 4)):
            told = call()
            kept = list(told)
            told.clear()
            self.assert_same(call(), kept)

    def test_refused(self):
        book = plain_book(2, 8)
        for odd in ODD + (1, 9, -1, EqualToAll()):
            self.refuses_itself(BadPlace, "place", odd, reset_moves, book, odd, 2)
            self.refuses_itself(BadPlace, "place", odd, reset_moves, book, odd, None)
            self.refuses_itself(BadPlace, "place", odd, fade_moves, book, odd)
        for odd in ODD + (0, 1, 10, -2, "2", EqualToAll()):
            self.refuses_itself(BadNumber, "number", odd, reset_moves, book, 2, odd)


class TeamsTest(Case):
    def test_told(self):
        book = plain_book()
        # 3 is shared 2 and 1, -3 is -2 and -1; -5 is -3 and -2, 5 is 3 and 2.
        self.assert_same(team_game(book, at(4, 5), at(4, 4), "upper"), at(6, 6, 2, 3))
        self.assert_same(team_game(book, at(4, 5), at(4, 4), "lower"), at(1, 3, 7, 6))
        self.assert_same(team_game(book, at(4, 5), at(4, 4), "draw"), at(5, 5, 3, 4))
        self.assert_same(team_game(book, at(1, 9), at(3, 4), "draw"), at(0, 9, 4, 5))
        self.assert_same(team_game(book, at(1, 9), at(3, 4), "upper"), None)
        self.assert_same(team_game(book, at(0, 9), at(4, 4), "lower"), at(0, 7, 7, 6))
        # Just from low to high.
        self.assert_same(team_game(book, at(8, 9), at(0, 1), "lower"), at(3, 5, 5, 5))
        self.assert_same(team_game(book, at(9, 9), at(0, 0), "upper"), at(9, 9, 0, 0))
        self.assert_same(team_game(result="upper", lower=at(4, 4), upper=at(4, 5), book=book), at(6, 6, 2, 3))

    def test_the_change_is_not_cut_ahead_of_being_shared(self):
        book = Book(0, 9, [(0, (6, -6), None, None)])
        self.assert_same(team_game(book, at(2, 9), at(0, 9), "upper"), at(5, 9, 0, 6))

    def test_halved_down(self):
        book = Book(0, 9, [(0, (1, 0), None, None), (1, None, (0, 0), None)])
        self.assert_same(team_game(book, at(3, 4), at(3, 3), "upper"), at(4, 4, 3, 3))
        self.assert_same(team_game(book, at(3, 3), at(3, 4), "upper"), at(4, 3, 3, 4))
        self.assert_same(team_game(book, at(4, 4), at(3, 4), "draw"), at(4, 4, 3, 4))

    def test_one_place_twice(self):
        book = plain_book()
        self.assert_same(team_game(book, at(4, 4), at(4, 4), "upper"), at(6, 5, 2, 3))

    def test_many(self):
        chance = random.Random(142)
        for _ in range(600):
            book = some_book(chance)
            if book.fresh or book.bonus:
                continue
            upper, lower = sorted([chance.choice(all_teams(book)), chance.choice(all_teams(book))],
                                  key=lambda team: -((team[0][0] + team[1][0]) // 2))
            for result in RESULTS:
                self.assert_same(team_game(book, upper, lower, result), told_team_game(book, upper, lower, result))

    def test_moves(self):
        chance = random.Random(143)
        books = [simple_book(), plain_book(2, 6), Book(3, 3, TABLE), Book(0, 3, [(0, None, None, None)])]
        books += [book for book in (some_book(chance, 7) for _ in range(40)) if not book.fresh and not book.bonus]
        for book in books:
            told = [(upper + lower, result, told_team_game(book, upper, lower, result))
                    for upper in all_teams(book) for lower in all_teams(book)
                    if sum(place[0] for place in upper) // 2 >= sum(place[0] for place in lower) // 2
                    for result in RESULTS]
            moves = list(team_moves(book))
            self.assert_same(moves, [move for move in told if move[2] is not None])
            self.assertTrue(all(is_move(move) for move in moves))

    def test_moves_are_a_generator(self):
        self.assertTrue(inspect.isgenerator(team_moves(simple_book())))
        moves = team_moves(book=Book(0, 23, TABLE))
        self.assert_same(next(moves), (at(0, 0, 0, 0), "upper", at(2, 1, 0, 0)))
        for book in (None, Book(0, 1, TABLE, fresh=1), Book(0, 1, TABLE, bonus=1)):
            team_moves(book)

    def test_refused(self):
        for parts, part in (({"fresh": 1}, "fresh"), ({"fresh": 2, "times": 3}, "fresh"), ({"bonus": 1}, "bonus")):
            book = Book(0, 2, TABLE, **parts)
            self.refuses(BadBook, "part", part, team_game, book, None, None, None)
            self.refuses(BadBook, "part", part, team_game, book, ((0, 0), (0, 0)), ((0, 0), (0, 0)), "upper")
            self.refuses(BadBook, "part", part, next, team_moves(book))
        book = simple_book()
        for odd in ODD + (at(1, 0), at(3, 3), at(0, 3), at(0), at(0, 0, 0), list(at(0, 0)), ((0, 1), (0, 1)), (0, 0),
                          ((False, 0), (1, 0)), ((0, 0), (True, 0)), ([0, 0], [0, 0]), (0, 0), ((0, 0), None),
                          EqualToAll(), (EqualToAll(), (0, 0)), ((0, 0), EqualToAll())):
            self.refuses_itself(BadPlace, "place", odd, team_game, book, odd, at(0, 0), "upper")
            self.refuses_itself(BadPlace, "place", odd, team_game, book, odd, None, None)
            self.refuses_itself(BadPlace, "place", odd, team_game, book, at(0, 0), odd, "upper")
            self.refuses_itself(BadPlace, "place", odd, team_game, book, at(0, 0), odd, None)
        for odd in ODD[:4] + ODD[5:] + ("Upper", "one", 1, ["upper"], EqualToAll()):
            self.refuses_itself(BadGame, "value", odd, team_game, book, at(0, 1), at(0, 0), odd)
            self.refuses_itself(BadGame, "value", odd, team_game, book, at(0, 0), at(2, 2), odd)
        for upper, lower in ((at(0, 0), at(1, 1)), (at(0, 1), at(0, 2)), (at(1, 2), at(2, 2))):
            self.refuses(BadGame, "value", lower, team_game, book, upper, lower, "draw")
        team_game(book, at(0, 2), at(1, 1), "draw")
        team_game(book, at(1, 1), at(0, 2), "draw")
        team_game(book, at(0, 0), at(0, 1), "draw")

    def test_all_moves_of_a_great_book(self):
        start = time.perf_counter()
        self.assertGreater(sum(1 for _ in team_moves(Book(0, 23, TABLE))), 70000)
        self.assertLess(time.perf_counter() - start, 5)


class FeedsTest(Case):
    def test_told(self):
        ways = ways_of(Book(0, 3, [(0, (0, -1), (0, 0), None)]))
        worths = {place: place[0] for place in ways.places()}
        start = (0, 0)
        # No game of this book brings points; a move up does, a fade takes them.
        for more, told in (([], False), ((), False), (fade_moves(Book(0, 3, TABLE), 0), False),
                           ([(at(0), "up", at(3))], True), ([(at(3), "", at(3))], False), (ways.moves(), False)):
            self.assert_truth(feeds(ways, more, start, worths), told)
            self.assert_truth(feeds(worths=worths, start=start, more=more, ways=ways), told)
        flat = {place: 1 for place in ways.places()}
        self.assert_truth(feeds(ways, [(at(0), "up", at(3))], start, flat), False)

    def test_teams_can_feed(self):
        # A change of 1 goes to the first one of the team; at the top it is cut: points of the other team get lost.
        book = Book(0, 2, [(0, (1, -1), None, None)])
        ways = ways_of(book)
        moves = list(team_moves(book))
        for worths in ({(0, 0): 0, (1, 0): 0, (2, 0): 1}, {(0, 0): 0, (1, 0): 5, (2, 0): 0}):
            one, other = greatest(ways, (1, 0), worths), greatest(ways + moves, (1, 0), worths)
            self.assert_truth(feeds(ways, moves, (1, 0), worths), is_above(other, one))

    def test_many(self):
        chance = random.Random(144)
        found = {True: 0, False: 0}
        for ways, start in many_ways(145, 600):
            places = ways.places()
            worths = {place: chance.randint(-3, 3) for place in places}
            more = []
            for _ in range(chance.randint(0, 4)):
                size = chance.choice([1, 2, 4])
                more.append((tuple(chance.choice(places) for _ in range(size)), "more",
                             tuple(chance.choice(places) for _ in range(size))))
            longer = Ways(places, ways.moves() + more)
            told = greatest(longer, start, worths) != greatest(ways, start, worths)
            self.assert_truth(feeds(ways, more, start, worths), told)
            found[told] += 1
        self.assertGreater(min(found.values()), 20)

    def test_refused(self):
        ways = ways_of(simple_book())
        worths = {place: 0 for place in ways.places()}
        good = (at(0), "", at(1))
        for odd in (None, {}, {good}, "", 0, True, object(), EqualToAll()):
            self.refuses(BadMove, "index", None, feeds, ways, odd, None, None)
        for odd in ODD + ((at(0), "", at(3)), list(good), (at(0, 0, 0), "", at(0, 0, 0)), EqualToAll()):
            for index in range(3):
                self.refuses(BadMove, "index", index, feeds, ways, [good] * index + [odd, None], None, None)
        self.refuses(TooMany, "limit", 3000, feeds, ways, [good] * (3001 - len(ways)), None, None)
        feeds(ways, [good] * (3000 - len(ways)), (0, 0), worths)
        for odd in ODD + ((3, 0), (False, 0), EqualToAll()):
            self.refuses_itself(UnknownPlace, "place", odd, feeds, ways, [good], odd, None)
        for odd in (None, [], 0, EqualToAll()):
            self.refuses(BadWorths, "place", None, feeds, ways, [good], (0, 0), odd)
        self.refuses(BadWorths, "place", (1, 0), feeds, ways, [], (0, 0), {(0, 0): 1, (2, 0): 1000})

    def test_nothing_changes(self):
        ways = ways_of(simple_book())
        more = [(at(0), "", at(1))]
        worths = {place: 0 for place in ways.places()}
        feeds(ways, more, (0, 0), worths)
        self.assert_same(more, [(at(0), "", at(1))])
        self.assert_same(worths, {place: 0 for place in ways.places()})
        self.assertEqual(ways, ways_of(simple_book()))


if __name__ == "__main__":
    unittest.main()
