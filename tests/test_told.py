"""Promises: tables that explain told games, the fewest rows of one, and what may follow; errors in order."""

from itertools import combinations
import random
import time
import unittest

from liftedladders.books import Book
from liftedladders.errors import BadGame, BadNumber, BadTold
from liftedladders.told import explains, fewest_rows, may_follow, told_table, unlike_games
from tests.support import Case, EqualToAll, ODD

RESULTS = ("upper", "draw", "lower")
CHANGES = range(-9, 10)
STILL = ((0, 0), (0, 0), (0, 0))


def kept(low, high, rating):
    return min(max(rating, low), high)


def entries_for(low, high, games):
    """All entries that explain games of one result."""
    return [(one, other) for one in CHANGES for other in CHANGES
            if all(kept(low, high, game[0] + one) == game[3] and kept(low, high, game[1] + other) == game[4]
                   for game in games)]


def told_tables(low, high, games):
    """For each tuple of borders whose rows explain the games: for each row, the entries of each result."""
    width = high - low
    known = {}
    tables = {}
    for many in range(width + 2):
        for more in combinations(range(1, width + 2), many):
            borders = (0,) + more
            rows = []
            for first, last in zip(borders, more + (99,)):
                if (first, last) not in known:
                    known[(first, last)] = [entries_for(low, high, [game for game in games if game[2] == result
                                                                    and first <= game[0] - game[1] < last])
                                            for result in RESULTS]
                rows.append(known[(first, last)])
            if all(entries for row in rows for entries in row):
                tables[borders] = rows
    return tables


def told_follow(low, high, games, upper, lower, result):
    tables = told_tables(low, high, games)
    if not tables:
        return None
    fewest = min(len(borders) for borders in tables)
    found = set()
    for borders, rows in tables.items():
        if len(borders) == fewest:
            row = rows[max(at for at, border in enumerate(borders) if border <= upper - lower)]
            found |= {(kept(low, high, upper + one), kept(low, high, lower + other))
                      for one, other in row[RESULTS.index(result)]}
    return sorted(found)


def told_unlike(low, high, games):
    return [(one, other) for one, other in combinations(range(len(games)), 2)
            if games[one][0] - games[one][1] == games[other][0] - games[other][1] and games[one][2] == games[other][2]
            and not entries_for(low, high, [games[one], games[other]])]


def some_games(chance, low, high, odd=0.0):
    """Told games of some table, now and then with an odd one."""
    borders = [0] + sorted(chance.sample(range(1, high - low + 2), chance.randint(0, min(3, high - low + 1))))
    most = chance.choice([1, 2, 4, 9])
    table = [(border, *[(chance.randint(-most, most), chance.randint(-most, most)) for _ in range(3)])
             for border in borders]
    book = Book(low, high, table)
    games = []
    for _ in range(chance.randint(0, 7)):
        lower = chance.randint(low, high)
        upper = chance.randint(lower, high)
        result = chance.choice(RESULTS)
        behind = book.game((upper, 0), (lower, 0), result)
        one, other = behind[0][0], behind[1][0]
        if chance.random() < odd:
            one = kept(max(low, upper - 9), min(high, upper + 9), chance.randint(low, high))
        games.append((upper, lower, result, one, other))
    return games


class ExplainsTest(Case):
    def test_told(self):
        games = [(5, 3, "upper", 6, 2), (5, 5, "draw", 5, 5), (9, 9, "upper", 9, 7)]
        table = [(0, (2, -2), (0, 0), (-3, 1)), (1, (1, -1), (9, -9), (0, 0))]
        self.assert_truth(explains(0, 9, games, table), True)
        self.assert_truth(explains(table=table, games=tuple(games), high=9, low=0), True)
        self.assert_truth(explains(0, 9, games, table[:1]), False)
        self.assert_truth(explains(0, 9, games, [table[0], (3, *table[1][1:])]), False)
        self.assert_truth(explains(0, 9, games, [table[0], (2, *table[1][1:]), (3, *STILL), (10 ** 30, *STILL)]), True)
        self.assert_truth(explains(0, 9, [], [(0, *STILL)]), True)
        self.assert_truth(explains(0, 9, games[:1], [(0, (1, -1), (0, 0), (0, 0))]), True)
        self.assert_truth(explains(0, 9, games[:1], [(0, (0, 0), (1, -1), (0, 0))]), False)
        self.assert_truth(explains(0, 9, games[:1], [(0, (1, -2), (0, 0), (0, 0))]), False)
        self.assert_truth(explains(0, 9, games[:1], [(0, (2, -1), (0, 0), (0, 0))]), False)

    def test_changes_that_are_cut(self):
        for change in CHANGES:
            self.assert_truth(explains(0, 5, [(4, 0, "upper", 5, 0)], [(0, (change, -9), *STILL[1:])]), change >= 1)
            self.assert_truth(explains(0, 5, [(5, 1, "lower", 5, 0)], [(0, *STILL[1:], (9, change))]), change <= -1)
            self.assert_truth(explains(3, 3, [(3, 3, "draw", 3, 3)], [(0, STILL[0], (change, -change), STILL[0])]), True)

    def test_any_value_is_no_table(self):
        good = (0, *STILL)
        for odd in ODD + (good, (good,), [], [list(good)], [good, None], [(1, *STILL)], [good, good], [good, (3, *STILL),
                          (2, *STILL)], [(False, *STILL)], [good, (True, *STILL)], [good[:3]], [good + (0,)], [(0, None, *STILL[1:])],
                          [(0, *STILL[:2], None)], [(0, (0, 10), *STILL[1:])], [(0, (-10, 0), *STILL[1:])],
                          [(0, (0, True), *STILL[1:])], [(0, [0, 0], *STILL[1:])], [(0, (0,), *STILL[1:])], [(-1, *STILL)],
                          [("0", *STILL)], [(None, *STILL)], {0: good}, {good}, "table", EqualToAll(), [EqualToAll()],
                          [(0, EqualToAll(), *STILL[1:])], [(EqualToAll(), *STILL)]):
            self.assert_truth(explains(0, 5, [], odd), False)
            self.assert_truth(explains(0, 5, [(4, 4, "draw", 4, 4)], odd), False)
        self.assert_truth(explains(0, 5, [], [good]), True)
        self.assert_truth(explains(0, 5, [], [(border, *STILL) for border in range(40)]), True)

    def test_as_books(self):
        chance = random.Random(161)
        found = {True: 0, False: 0}
        for _ in range(400):
            low = chance.randint(0, 5)
            high = low + chance.randint(0, 6)
            games = some_games(chance, low, high, 0.1)
            table = [(border, *[(chance.randint(-1, 1), chance.randint(-1, 1)) for _ in range(3)])
                     for border in [0, 2, 3][:chance.randint(1, 3)]]
            book = Book(low, high, table)
            told = all(book.game((upper, 0), (lower, 0), result) == ((one, 0), (other, 0))
                       for upper, lower, result, one, other in games)
            self.assert_truth(explains(low, high, games, table), told)
            found[told] += 1
        self.assertGreater(min(found.values()), 20)


class TablesTest(Case):
    def test_fewest(self):
        up, down = (5, 4, "upper", 6, 4), (5, 3, "upper", 4, 3)
        for games, many in (([], 1), ([up], 1), ([up, down], 2), ([up, down, (5, 2, "upper", 6, 2)], 3),
                            ([up, (5, 4, "lower", 4, 4)], 1), ([up, (5, 4, "upper", 7, 4)], None),
                            ([up, (5, 4, "upper", 6, 3)], None), ([up, (8, 7, "upper", 9, 7)], 1),
                            ([(8, 7, "upper", 9, 7), (7, 6, "upper", 9, 6)], 1), ([up, up, down, down], 2),
                            # Cut at 9: 1 or more, so it goes along with a change of 3 on either side.
                            ([(5, 4, "upper", 8, 4), (8, 6, "upper", 9, 6), (4, 1, "upper", 7, 1)], 1)):
            self.assert_same(fewest_rows(0, 9, games), many)
            self.assert_same(fewest_rows(games=tuple(games), high=9, low=0), many)
            table = told_table(0, 9, games)
            if many is None:
                self.assertIsNone(table)
            else:
                self.assertEqual(len(table), many)
                self.assert_truth(explains(0, 9, games, table), True)

    def test_a_row_for_each_difference(self):
        games = [(23, 23 - difference, "draw", 23 - difference % 2, 23 - difference) for difference in range(24)]
        self.assert_same(fewest_rows(0, 23, games), 24)
        table = told_table(0, 23, games)
        self.assertEqual(len(table), 24)
        self.assert_truth(explains(0, 23, games, table), True)

    def test_many(self):
        chance = random.Random(162)
        found = {}
        for _ in range(250):
            low = chance.randint(0, 9)
            high = low + chance.randint(0, 5)
            games = some_games(chance, low, high, chance.choice([0, 0.2]))
            tables = told_tables(low, high, games)
            many = min(len(borders) for borders in tables) if tables else None
            self.assert_same(fewest_rows(low, high, games), many)
            table = told_table(low, high, games)
            if many is None:
                self.assertIsNone(table)
            else:
                self.assertIs(type(table), list)
                self.assertEqual(len(table), many)
                self.assert_truth(explains(low, high, games, table), True)
            unlike = unlike_games(low, high, games)
            self.assert_same(unlike, told_unlike(low, high, games))
            self.assertEqual(unlike == [], many is not None)
            found[many] = found.get(many, 0) + 1
        self.assertGreater(min(found.get(many, 0) for many in (None, 1, 2, 3)), 4)

    def test_unlike_games(self):
        games = [(5, 4, "upper", 6, 4), (6, 5, "upper", 7, 5), (5, 4, "upper", 7, 4), (5, 4, "upper", 6, 3),
                 (5, 4, "lower", 7, 4), (8, 7, "upper", 9, 7), (5, 3, "upper", 9, 3)]
        self.assert_same(unlike_games(0, 9, games), [(0, 2), (0, 3), (1, 2), (1, 3), (2, 3), (3, 5)])
        self.assert_same(unlike_games(games=tuple(games[:2]), high=9, low=0), [])
        self.assert_same(unlike_games(0, 9, []), [])


class FollowTest(Case):
    def test_told(self):
        games = [(5, 4, "upper", 6, 3), (8, 6, "upper", 9, 6)]
        self.assert_same(fewest_rows(0, 9, games), 2)
        # At the difference 2 the winner gets one or more; the difference 0 has the row of 1; 3 and more that of 2.
        self.assert_same(may_follow(0, 9, games, 4, 4, "upper"), [(5, 3)])
        self.assert_same(may_follow(0, 9, games, 4, 3, "upper"), [(5, 2)])
        self.assert_same(may_follow(0, 9, games, 6, 4, "upper"), [(7, 4), (8, 4), (9, 4)])
        self.assert_same(may_follow(0, 9, games, 8, 0, "upper"), [(9, 0)])
        self.assert_same(may_follow(result="lower", lower=8, upper=9, games=tuple(games), high=9, low=0),
                         [(one, other) for one in range(10) for other in range(10)])

    def test_a_difference_between_may_go_with_both(self):
        games = [(5, 5, "draw", 5, 5), (8, 4, "draw", 7, 4)]
        self.assert_same(may_follow(0, 9, games, 6, 4, "draw"), [(5, 4), (6, 4)])
        self.assert_same(may_follow(0, 9, games, 9, 4, "draw"), [(8, 4)])
        games = [(5, 5, "draw", 5, 5), (8, 4, "draw", 7, 4), (8, 3, "draw", 6, 3)]
        self.assert_same(may_follow(0, 9, games, 5, 4, "draw"), [(4, 4), (5, 4)])
        self.assert_same(may_follow(0, 9, games, 8, 4, "draw"), [(7, 4)])

    def test_rows_that_overlap(self):
        # The game between is explained by the row of either side.
        games = [(5, 5, "draw", 6, 5), (8, 7, "draw", 9, 7), (5, 3, "draw", 8, 3)]
        self.assert_same(fewest_rows(0, 9, games), 2)
        self.assert_same(may_follow(0, 9, games, 4, 3, "draw"), [(5, 3), (7, 3)])
        self.assert_same(told_follow(0, 9, games, 4, 3, "draw"), [(5, 3), (7, 3)])

    def test_no_games_and_no_table(self):
        every = [(one, other) for one in range(10) for other in range(10)]
        self.assert_same(may_follow(0, 9, [], 5, 5, "draw"), every)
        self.assert_same(may_follow(0, 23, [], 12, 1, "draw"),
                         [(one, other) for one in range(3, 22) for other in range(0, 11)])
        self.assert_same(may_follow(3, 3, [], 3, 3, "upper"), [(3, 3)])
        self.assertIsNone(may_follow(0, 9, [(5, 4, "upper", 6, 4), (5, 4, "upper", 7, 4)], 9, 0, "draw"))

    def test_many(self):
        chance = random.Random(163)
        found = {"none": 0, "one": 0, "several": 0, "between": 0}
        for _ in range(250):
            low = chance.randint(0, 9)
            high = low + chance.randint(0, 5)
            games = some_games(chance, low, high, chance.choice([0, 0.1]))
            lower = chance.randint(low, high)
            upper, result = chance.randint(lower, high), chance.choice(RESULTS)
            told = told_follow(low, high, games, upper, lower, result)
            self.assert_same(may_follow(low, high, games, upper, lower, result), told)
            found["none" if told is None else "one" if len(told) == 1 else "several"] += 1
            found["between"] += told is not None and 1 < len(told) < 6
        self.assertGreater(min(found.values()), 5, found)

    def test_a_short_time(self):
        chance = random.Random(164)
        table = [(border, *[(chance.randint(-3, 3), chance.randint(-3, 3)) for _ in range(3)]) for border in (0, 2, 5, 9, 14)]
        book = Book(0, 23, table)
        games = []
        for _ in range(600):
            lower = chance.randint(0, 23)
            upper, result = chance.randint(lower, 23), chance.choice(RESULTS)
            behind = book.game((upper, 0), (lower, 0), result)
            games.append((upper, lower, result, behind[0][0], behind[1][0]))
        start = time.perf_counter()
        self.assert_truth(explains(0, 23, games, table), True)
        self.assert_same(fewest_rows(0, 23, games), 5)
        self.assert_same(unlike_games(0, 23, games), [])
        self.assert_same(may_follow(0, 23, games, 12, 12, "upper"),
                         [tuple(place[0] for place in book.game((12, 0), (12, 0), "upper"))])
        self.assertLess(time.perf_counter() - start, 5)


class RefusedTest(Case):
    calls = ((explains, ([(0, *STILL)],)), (fewest_rows, ()), (told_table, ()), (unlike_games, ()),
             (may_follow, (0, 0, "draw")), (may_follow, (None, None, None)))

    def test_bounds(self):
        for call, more in self.calls:
            for odd in ODD + (-1, 24, 10 ** 30, "0", EqualToAll()):
                self.refuses_itself(BadNumber, "number", odd, call, odd, None, None, *more)
                self.refuses_itself(BadNumber, "number", odd, call, odd, 5, [], *more)
                self.refuses_itself(BadNumber, "number", odd, call, 0, odd, None, *more)
                self.refuses_itself(BadNumber, "number", odd, call, 0, odd, [], *more)
            self.refuses(BadNumber, "number", 4, call, 5, 4, None, *more)
        for low, high in ((0, 23), (0, 0), (23, 23)):
            self.assert_same(fewest_rows(low, high, []), 1)

    def test_games(self):
        good = (5, 4, "upper", 6, 3)
        for call, more in self.calls:
            for odd in (None, {}, {good: 1}, {good}, "", 0, True, object(), EqualToAll()):
                self.refuses(BadTold, "index", None, call, 2, 15, odd, *more)
            for odd in ODD + (list(good), good[:4], good + (0,), (4, 5, "upper", 4, 5), (5, 4, "one", 5, 4), (1, 1, "draw", 2, 2),
                              (5, 1, "draw", 5, 2), (16, 4, "draw", 15, 4), (5, 4, "draw", 1, 4), (5, 4, "draw", 5, 16),
                              (15, 4, "draw", 5, 4), (15, 15, "draw", 15, 5), (5, 5, "draw", 15, 5), (5, 4, "draw", 5, 14),
                              (5, 4, None, 5, 4), (5, 4, ["draw"], 5, 4), (True, 4, "draw", 5, 4), ("5", 4, "draw", 5, 4),
                              (5, 4, "draw", None, 4), (5, 4, "draw", 5, True), EqualToAll(), (EqualToAll(), 4, "draw", 5, 4),
                              (5, 4, EqualToAll(), 5, 4), (5, 4, "draw", 5, EqualToAll())):
                for index in range(3):
                    self.refuses(BadTold, "index", index, call, 2, 15, [good] * index + [odd, None], *more)
                    self.refuses(BadTold, "index", index, call, 2, 15, (good,) * index + (odd, None), *more)

    def test_changes_of_nine_and_of_ten(self):
        for game, least in (((2, 2, "upper", 11, 2), True), ((2, 2, "upper", 12, 2), False), ((14, 14, "draw", 14, 5), True),
                            ((14, 14, "draw", 14, 4), False), ((14, 2, "lower", 5, 11), True),
                            ((14, 2, "lower", 4, 11), False)):
            if least:
                table = told_table(0, 15, [game])
                self.assert_truth(explains(0, 15, [game], table), True)
            else:
                self.refuses(BadTold, "index", 0, told_table, 0, 15, [game])
        # At the ends a change of 9 is the only one that explains so much.
        self.assert_same(told_table(0, 9, [(0, 0, "draw", 9, 9)])[0][2], (9, 9))

    def test_the_further_game(self):
        games = [(5, 4, "upper", 6, 3)]
        unlike = games + [(5, 4, "upper", 7, 3)]
        for told in (games, unlike, []):
            for odd in ODD + (1, 10, -1, "5", EqualToAll()):
                self.refuses_itself(BadGame, "value", odd, may_follow, 2, 9, told, odd, 4, "upper")
                self.refuses_itself(BadGame, "value", odd, may_follow, 2, 9, told, odd, None, None)
                self.refuses_itself(BadGame, "value", odd, may_follow, 2, 9, told, 9, odd, "upper")
                self.refuses_itself(BadGame, "value", odd, may_follow, 2, 9, told, 9, odd, None)
            self.refuses(BadGame, "value", 6, may_follow, 2, 9, told, 5, 6, None)
            for odd in ODD[:4] + ODD[5:] + ("Upper", "one", 1, ["upper"], EqualToAll()):
                self.refuses_itself(BadGame, "value", odd, may_follow, 2, 9, told, 5, 5, odd)

    def test_nothing_changes(self):
        games = [(5, 4, "upper", 6, 3), (8, 2, "upper", 6, 3)]
        for call, more in self.calls[:5]:
            told = call(0, 9, games, *more)
            kept_games = list(games)
            if isinstance(told, list):
                again = list(told)
                told.clear()
                self.assert_same(call(0, 9, games, *more), again)
            self.assert_same(games, kept_games)


if __name__ == "__main__":
    unittest.main()
