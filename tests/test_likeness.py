"""Promises: which books are alike for newcomers with a rating, and games that show that two are not."""

import random
import time
import unittest
from unittest import mock

from liftedladders.books import Book
from liftedladders.errors import BadPlace, TooMany
from liftedladders.likeness import are_alike, first_unlike
from tests.support import Case, EqualToAll, ODD, simple_book, some_book

RESULTS = ("upper", "draw", "lower")
UP_DOWN = (0, (1, -1), (0, 0), (-1, 1))


def both_behind(one, other, upper, lower, result):
    """What becomes of two players, each at a pair of places, or `counts` or `ratings` where the books are unlike."""
    told, also = one.game(upper[0], lower[0], result), other.game(upper[1], lower[1], result)
    if told is None or also is None:
        return (upper, lower) if told == also else "counts"
    if [place[0] for place in told] != [place[0] for place in also]:
        return "ratings"
    return ((told[0], also[0]), (told[1], also[1]))


def told_costs(one, other, rating):
    """The fewest games, all players' anew, to each pair of places that is come to, and to being unlike, or None.

    By rounds over all games, until nothing gets less.
    """
    costs = {(one.start(rating), other.start(rating)): 0}
    unlike = None
    changed = True
    while changed:
        changed = False
        for upper in list(costs):
            for lower in list(costs):
                if upper[0][0] < lower[0][0]:
                    continue
                games = costs[upper] + costs[lower] + 1
                for result in RESULTS:
                    behind = both_behind(one, other, upper, lower, result)
                    if isinstance(behind, str):
                        unlike = games if unlike is None else min(games, unlike)
                        continue
                    for seat in behind:
                        if games < costs.get(seat, games + 1) and seat not in (upper, lower):
                            costs[seat] = games
                            changed = True
    return unlike


def played(case, one, other, rating, games):
    """Plays games in both books, the last one too, and tells how they are unlike by it."""
    numbers = sorted({number for game in games for number in game[:2]})
    case.assertEqual(numbers, list(range(len(numbers))))
    there = {number: (one.start(rating), other.start(rating)) for number in numbers}
    for upper, lower, result in games[:-1]:
        case.assertNotEqual(upper, lower)
        case.assertGreaterEqual(there[upper][0][0], there[lower][0][0])
        case.assertIsNotNone(one.game(there[upper][0], there[lower][0], result))
        behind = both_behind(one, other, there[upper], there[lower], result)
        case.assertIsInstance(behind, tuple)
        there[upper], there[lower] = behind
    upper, lower, result = games[-1]
    case.assertNotEqual(upper, lower)
    case.assertGreaterEqual(there[upper][0][0], there[lower][0][0])
    return both_behind(one, other, there[upper], there[lower], result)


class LikenessTest(Case):
    def alike(self, one, other, rating, told):
        self.assert_truth(are_alike(one, other, rating), told)
        self.assert_truth(are_alike(other, one, rating), told)
        if told:
            self.assertIsNone(first_unlike(one, other, rating))
            return None
        games, kind = first_unlike(one, other, rating)
        self.assertIs(type(games), list)
        self.assert_same(played(self, one, other, rating, games), kind)
        self.assert_same(played(self, other, one, rating, games), kind)
        return kind

    def test_one_book_twice(self):
        for book in (simple_book(), Book(0, 7, [UP_DOWN], fresh=2, times=3), Book(0, 11, [UP_DOWN], bonus=5)):
            for rating in range(book.low, book.high + 1):
                self.alike(book, book, rating, True)
        self.assert_truth(are_alike(rating=0, other=simple_book(), one=simple_book()), True)
        self.assertIsNone(first_unlike(rating=0, other=simple_book(), one=simple_book()))

    def test_rows_that_are_never_met(self):
        book = Book(2, 6, [UP_DOWN])
        for border, told in ((4, False), (5, True), (9, True)):
            longer = Book(2, 6, [UP_DOWN, (border, None, None, None)])
            self.alike(book, longer, 4, told)
        # All begin at 3, and nobody moves: no other difference is ever met.
        still = Book(0, 9, [(0, None, (0, 0), None)])
        self.alike(still, Book(0, 9, [(0, None, (0, 0), None), (1, (5, 5), None, (2, 2))]), 3, True)
        self.alike(still, Book(0, 9, [(0, None, (0, 0), None), (1, None, None, None)]), 3, True)
        self.alike(still, Book(0, 9, [(0, None, (1, 0), None)]), 3, False)
        # Draws bring both up; those who have drawn and those who have not are 1 apart.
        draws = Book(0, 9, [(0, None, (1, 1), None)])
        self.alike(draws, Book(0, 9, [(0, None, (1, 1), None), (1, (5, 5), None, (2, 2))]), 3, False)

    def test_results_that_do_not_count(self):
        for result in range(3):
            row = list(UP_DOWN)
            row[1 + result] = None
            self.assert_same(self.alike(simple_book(), Book(0, 2, [tuple(row)]), 1, False), "counts")
        # A game that counts and changes nothing is not the same as one that does not count.
        self.assert_same(self.alike(Book(3, 3, [UP_DOWN]), Book(3, 3, [(0, None, (0, 0), (-1, 1))]), 3, False), "counts")
        self.alike(Book(3, 3, [UP_DOWN]), Book(3, 3, [(0, (9, 9), (-5, 5), (-1, 1))]), 3, True)

    def test_a_floor_that_is_met(self):
        for low, high, told in ((0, 9, True), (1, 9, False), (0, 8, False), (4, 9, False), (0, 4, False)):
            self.alike(Book(0, 9, [UP_DOWN]), Book(low, high, [UP_DOWN]), 4, told)
        # Nobody falls, so the floor is never met; the ceiling is.
        rising = [(0, (1, 0), (0, 0), (0, 1))]
        self.alike(Book(0, 9, rising), Book(4, 9, rising), 4, True)
        self.alike(Book(0, 9, rising), Book(2, 9, rising), 4, True)
        self.assert_same(self.alike(Book(0, 9, rising), Book(4, 8, rising), 4, False), "ratings")
        # Nobody moves at all.
        self.alike(Book(0, 9, [(0, (0, 0), None, None)]), Book(4, 5, [(0, (0, 0), None, None)]), 4, True)

    def test_newcomers_and_bonuses(self):
        plain = Book(0, 7, [UP_DOWN])
        for parts, told in (({"fresh": 1}, True), ({"fresh": 2, "times": 1}, True), ({"fresh": 1, "times": 2}, False),
                            ({"fresh": 2, "times": 3}, False), ({"bonus": 1}, False)):
            self.alike(plain, Book(0, 7, [UP_DOWN], **parts), 3, told)
        self.alike(Book(0, 7, [UP_DOWN], fresh=1, times=2), Book(0, 7, [UP_DOWN], fresh=2, times=2), 3, False)
        self.alike(Book(0, 7, [(0, None, (0, 0), None)]), Book(0, 7, [(0, None, (0, 0), None)], fresh=2, times=3), 3, True)
        # Nobody wins twice, since nobody with a rating above 3 plays on.
        once = [(0, (1, 0), None, None), (1, None, None, None)]
        self.alike(Book(3, 4, once), Book(3, 4, once, bonus=5), 3, True)
        self.alike(Book(0, 7, [(0, None, (1, -1), None)]), Book(0, 7, [(0, None, (1, -1), None)], bonus=2), 3, True)
        bonus = Book(0, 9, [UP_DOWN, (1, (1, -1), None, None)], bonus=2)
        games, kind = first_unlike(bonus, Book(0, 9, [UP_DOWN, (1, (1, -1), None, None)], bonus=3), 3)
        self.assert_same((len(games), kind), (2, "ratings"))

    def test_all_players_begin_with_the_rating(self):
        # At the difference 2 the books are unlike; from 0 on nobody comes there.
        one = Book(0, 5, [(0, (1, 0), None, None), (1, None, None, None), (2, (1, 0), None, None)])
        other = Book(0, 5, [(0, (1, 0), None, None), (1, None, None, None), (2, (0, 1), None, None)])
        for rating in range(6):
            told = both = first_unlike(one, other, rating)
            if rating < 4:
                games, kind = both
                self.assert_same(kind, "ratings")
                self.assert_same(len(games), 4)
            else:
                self.assertIsNone(told)

    def test_the_shortest(self):
        games, kind = first_unlike(simple_book(), Book(0, 2, [(0, (1, 0), (0, 0), (-1, 1))]), 1)
        self.assert_same((games, kind), ([(0, 1, "upper")], "ratings"))
        games, kind = first_unlike(simple_book(), Book(0, 2, [UP_DOWN, (1, None, (0, 0), (-1, 1))]), 0)
        self.assert_same((len(games), kind), (2, "counts"))

    def test_as_few_games_as_can_be(self):
        # Places that are found soon are not always those that take the fewest games.
        for high, table, many in ((8, [(0, (3, -1), None, None), (2, None, None, None), (5, (1, 0), None, None)], 6),
                                  (7, [(0, (2, -1), None, None), (2, None, None, None), (5, (1, 0), None, None),
                                       (6, None, None, None)], 12),
                                  (9, [(0, (3, -1), None, None), (1, (1, 1), None, None), (6, (1, 1), None, (0, 0))], 7),
                                  (9, [(0, None, None, (2, -1)), (2, (3, 0), None, None), (6, (1, 0), None, None)], 5)):
            one, other = Book(0, high, table), Book(0, high + 1, table)
            self.assertEqual(told_costs(one, other, 0), many)
            self.assertEqual(len(first_unlike(one, other, 0)[0]), many)
            self.alike(one, other, 0, False)

    def test_many_with_steps(self):
        chance = random.Random(172)
        longest = 0
        for _ in range(200):
            high = chance.randint(4, 9)
            table = [(border, *[None if chance.random() < 0.6 else (chance.randint(0, 3), chance.randint(-1, 1))
                                for _ in range(3)]) for border in [0] + sorted(chance.sample(range(1, high), 2))]
            one, other = Book(0, high, table), Book(0, high + 1, table)
            many = told_costs(one, other, 0)
            self.alike(one, other, 0, many is None)
            if many is not None:
                self.assertEqual(len(first_unlike(one, other, 0)[0]), many)
                longest = max(longest, many)
        self.assertGreater(longest, 8)

    def test_many(self):
        chance = random.Random(171)
        found = {"alike": 0, "counts": 0, "ratings": 0, "long": 0}
        for _ in range(500):
            one = some_book(chance, chance.choice([3, 7]))
            parts = {"fresh": one.fresh, "times": one.times, "bonus": one.bonus}
            table = list(one.table)
            if chance.random() < 0.7:
                at = chance.randrange(len(table))
                row = list(table[at])
                row[chance.randint(1, 3)] = None if chance.random() < 0.3 else (chance.randint(-2, 2), chance.randint(-2, 2))
                table[at] = tuple(row)
            low, high = max(0, one.low - chance.choice([0, 0, 1])), one.high + chance.choice([0, 0, 1])
            if chance.random() < 0.3:
                parts = chance.choice([{"fresh": 1, "times": chance.randint(1, 2)}, {"bonus": 1}, {}])
            try:
                other = Book(low, high, table, **parts)
            except OverflowError:
                continue
            rating = chance.randint(one.low, one.high)
            many = told_costs(one, other, rating)
            kind = self.alike(one, other, rating, many is None)
            if kind is None:
                found["alike"] += 1
                continue
            games, _ = first_unlike(one, other, rating)
            self.assertEqual(len(games), many)
            found[kind] += 1
            found["long"] += many > 3
        self.assertGreater(min(found.values()), 4, found)

    def test_too_many(self):
        # Only equal ones play: to come one higher takes twice as many players. The ceilings show it at the end.
        table = [UP_DOWN, (1, None, None, None)]
        for high, many in ((3, 15), (12, 8191), (13, 16383)):
            games, kind = first_unlike(Book(0, high, table), Book(0, high + 1, table), 0)
            self.assert_same((len(games), kind), (many, "ratings"))
            self.assert_same(played(self, Book(0, high, table), Book(0, high + 1, table), 0, games), "ratings")
        for high in (14, 21):
            one, other = Book(0, high, table), Book(0, high + 1, table)
            self.assert_truth(are_alike(one, other, 0), False)
            self.refuses(TooMany, "limit", 20000, first_unlike, one, other, 0)
            self.refuses(TooMany, "limit", 20000, first_unlike, other, one, 0)

    def test_just_so_many(self):
        # At the difference 13 the books are unlike: 8191 games bring one there, and the last one comes behind them.
        table = [UP_DOWN, (1, None, None, None)]
        one, other = Book(0, 13, table), Book(0, 13, table + [(13, (0, 0), None, None)])
        games, kind = first_unlike(one, other, 0)
        self.assert_same((len(games), kind), (8192, "counts"))
        with mock.patch("liftedladders.likeness.MOST_PLAYED", 8192):
            self.assert_same(first_unlike(one, other, 0), (games, kind))
        with mock.patch("liftedladders.likeness.MOST_PLAYED", 8191):
            self.refuses(TooMany, "limit", 8191, first_unlike, one, other, 0)

    def test_books_of_22_and_23_ratings(self):
        for table in ([UP_DOWN], [(0, (2, -1), (0, 0), (-1, 2)), (3, (1, -2), (-1, 1), (-2, 3))]):
            one, other = Book(0, 21, table), Book(0, 22, table)
            for rating in (0, 11, 21):
                self.assert_same(self.alike(one, other, rating, False), "ratings")
            self.refuses(BadPlace, "place", 22, are_alike, one, other, 22)
            self.refuses(BadPlace, "place", 22, first_unlike, other, one, 22)

    def test_a_short_time(self):
        start = time.perf_counter()
        table = [UP_DOWN, (4, (2, -2), (-1, 1), (-3, 3)), (9, (0, 0), (-2, 2), (-5, 5))]
        for one, other in ((Book(0, 23, table), Book(0, 23, table)), (Book(0, 7, table, fresh=2), Book(0, 7, table)),
                           (Book(0, 7, table, fresh=2), Book(0, 7, table, fresh=1)),
                           (Book(0, 11, table), Book(0, 11, table + [(12, None, None, None)]))):
            self.assert_truth(are_alike(one, other, 3), True)
        self.assertLess(time.perf_counter() - start, 5)

    def test_refused(self):
        one, other = Book(2, 6, [UP_DOWN]), Book(4, 8, [UP_DOWN])
        for call in (are_alike, first_unlike):
            for odd in ODD + (1, 2, 3, 7, 8, 9, -1, "4", (4, 0), EqualToAll()):
                self.refuses_itself(BadPlace, "place", odd, call, one, other, odd)
                self.refuses_itself(BadPlace, "place", odd, call, other, one, odd)
            for rating in (4, 5, 6):
                call(one, other, rating)


if __name__ == "__main__":
    unittest.main()
