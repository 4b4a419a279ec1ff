"""Promises: duels, their steps and windows, and plays told one by one; their errors."""

import random
import unittest

from liftedladders.books import Book
from liftedladders.duels import Duel
from liftedladders.errors import BadBook, BadGame
from tests.support import Case, EqualToAll, ODD, some_book

PLAIN = [(0, (1, -1), (0, 0), (-1, 1))]
TWO = [(0, (2, -1), None, (-3, 4)), (5, (1, 0), (-1, 1), None)]
NOBODY = [(0, None, None, None)]


def some_duel(chance):
    return Duel(list(some_book(chance).table))


class DuelTest(Case):
    def test_attributes(self):
        for table, span, far in ((PLAIN, 2, 2), (TWO, 7, 7), (NOBODY, 0, 0), (NOBODY + [(23, None, None, None)], 0, 23),
                                 ([(0, (1, 1), (-4, -4), None)], 0, 0), ([(0, (9, -9), None, (0, 0))], 18, 18),
                                 ([(0, None, (-9, 9), None), (17, None, None, None)], 18, 18),
                                 ([(0, None, None, None), (9, None, None, (-3, 5))], 8, 9),
                                 ([(0, None, None, None), (8, None, None, (5, -3))], 8, 8),
                                 ([(0, None, None, None), (7, None, None, (5, -3))], 8, 8)):
            duel = Duel(table)
            self.assert_same((duel.table, duel.span, duel.far), (tuple(table), span, far))
            self.assert_same(Duel(table=tuple(table)).table, tuple(table))

    def test_refused(self):
        bad = ([], [PLAIN[0]] * 2, [(1, None, None, None)], [(0, None, None)], [(0, (10, 0), None, None)],
               [(0, (0, -10), None, None)], [(0, [1, 1], None, None)], [[0, None, None, None]], {0: PLAIN[0]},
               [(True, None, None, None)], [(0, (True, 0), None, None)], PLAIN + [(24, None, None, None)],
               TWO + [(5, None, None, None)], TWO + [(4, None, None, None)], [(0, (1, -1, 0), None, None)],
               [(at, None, None, None) for at in range(7)], "table", [(0, None, None, None), None])
        for odd in ODD + bad + (EqualToAll(), [EqualToAll()]):
            with self.assertRaises(BadBook) as caught:
                Duel(odd)
            self.assert_same(caught.exception.part, "table")
        self.assert_same(Duel([(at, None, None, None) for at in range(6)]).far, 5)

    def test_rows(self):
        duel = Duel(TWO)
        for difference in (0, 1, 4):
            self.assert_same(duel[difference], TWO[0])
        for difference in (5, 6, 23, 24, 10 ** 30):
            self.assert_same(duel[difference], TWO[1])
        for odd in ODD + (-1, "0", (0, 1)):
            self.refuses(BadGame, "value", odd, lambda: duel[odd])

    def test_not_iterated(self):
        with self.assertRaises(TypeError):
            iter(Duel(PLAIN))

    def test_compared(self):
        self.assert_truth(Duel(TWO) == Duel(tuple(TWO)), True)
        for other in (Duel(PLAIN), Duel(TWO[:1]), Duel(NOBODY), tuple(TWO), TWO, None, Book(0, 1, TWO)):
            self.assert_truth(Duel(TWO) == other, False)
            self.assert_truth(Duel(TWO) != other, True)

    def test_the_list_may_be_changed_afterwards(self):
        table = list(TWO)
        duel = Duel(table)
        table[0] = NOBODY[0]
        table.pop()
        self.assertEqual(duel, Duel(TWO))
        self.assert_same(duel.step(0, "upper"), (3, 1))


class StepTest(Case):
    def test_told(self):
        duel = Duel(TWO)
        for difference, result, behind in ((0, "upper", (3, 1)), (0, "draw", None), (0, "lower", (7, 1)),
                                           (4, "lower", (3, 1)), (4, "upper", (7, 1)), (5, "draw", (3, 0)),
                                           (5, "upper", (6, 1)), (5, "lower", None), (100, "upper", (101, 1)),
                                           (7, "draw", (5, 0)), (1, "lower", (6, 1))):
            self.assert_same(duel.step(difference, result), behind)
            self.assert_same(duel.step(result=result, difference=difference), behind)
        self.assert_same(Duel([(0, (3, 3), (-5, -4), (0, 1))]).step(0, "upper"), (0, 6))
        self.assert_same(Duel([(0, (3, 3), (-5, -4), (0, 1))]).step(0, "draw"), (1, -9))
        self.assert_same(Duel([(0, (3, 3), (-5, -4), (0, 1))]).step(0, "lower"), (1, 1))

    def test_refused(self):
        duel = Duel(TWO)
        for odd in ODD + (-1, (0, 1)):
            for result in ("upper", None):
                self.refuses(BadGame, "value", odd, duel.step, odd, result)
        for odd in ODD + ("", "Upper", "won", "one", ["upper"], EqualToAll()):
            if odd != "upper" or isinstance(odd, EqualToAll):
                with self.assertRaises(BadGame) as caught:
                    duel.step(0, odd)
                self.assertIs(caught.exception.value, odd)

    def test_as_a_book_without_walls(self):
        # A book with far walls changes the difference of two ratings as the duel does.
        chance = random.Random(81)
        for _ in range(40):
            duel = some_duel(chance)
            if duel.span > 8:
                continue
            book = Book(0, 23, list(duel.table))
            for difference in range(6):
                for result in ("upper", "draw", "lower"):
                    upper, lower = 9 + difference, 9
                    behind = book.game((upper, 0), (lower, 0), result)
                    step = duel.step(difference, result)
                    if behind is None:
                        self.assertIsNone(step)
                    else:
                        (one, _), (other, _) = behind
                        self.assert_same(step, (abs(one - other), one + other - upper - lower))


class WindowTest(Case):
    def test_told(self):
        for table, firsts in ((PLAIN, {0: 6, 4: 6, 5: 7, 23: 25}), (TWO, {0: 21, 14: 21, 15: 22, 23: 30}),
                              (NOBODY, {0: 0, 1: 1, 23: 23}), (NOBODY + [(9, (2, -2), None, None)], {0: 17, 13: 17, 14: 18})):
            for first, most in firsts.items():
                self.assert_same(Duel(table).window(first), most)
                self.assert_same(Duel(table).window(first=first), most)

    def test_refused(self):
        for odd in ODD + (-1, 24, 10 ** 30, "0", EqualToAll()):
            with self.assertRaises(BadGame) as caught:
                Duel(TWO).window(odd)
            self.assertIs(caught.exception.value, odd)


class PlayTest(Case):
    def test_told(self):
        duel = Duel(TWO)
        for first, results, rows in ((0, [], [(0, 0)]), (23, [], [(23, 0)]), (0, ["upper"], [(0, 0), (3, 1)]),
                                     (4, ["lower", "upper", "draw"], [(4, 0), (3, 1), (6, 2), (4, 2)]),
                                     (23, ["upper", "upper", "draw"], [(23, 0), (24, 1), (25, 2), (23, 2)]),
                                     (5, ("draw", "lower"), [(5, 0), (3, 0), (4, 1)])):
            self.assert_same(list(duel.play(first, results)), rows)
            self.assert_same(list(duel.play(results=results, first=first)), rows)

    def test_many(self):
        chance = random.Random(82)
        for _ in range(60):
            duel, first = some_duel(chance), chance.randint(0, 23)
            results = [chance.choice(["upper", "draw", "lower"]) for _ in range(12)]
            rows, points, difference = [(first, 0)], 0, first
            for index, result in enumerate(results):
                step = duel.step(difference, result)
                if step is None:
                    break
                difference, points = step[0], points + step[1]
                rows.append((difference, points))
            else:
                index = None
            told, plays = [], duel.play(first, results)
            if index is None:
                self.assert_same(list(plays), rows)
            else:
                with self.assertRaises(BadGame) as caught:
                    for row in plays:
                        told.append(row)
                self.assert_same(told, rows)
                self.assert_same(caught.exception.value, index)

    def test_first_refused_with_the_first_value(self):
        for odd in ODD + (-1, 24, "0", EqualToAll()):
            for results in ([], ["upper"], [None], None):
                plays = Duel(TWO).play(odd, results)
                with self.assertRaises(BadGame) as caught:
                    next(plays)
                self.assertIs(caught.exception.value, odd)

    def test_results_refused_behind_those_ahead(self):
        for odd in ODD + ("", "Upper", "one", ["upper"], EqualToAll()):
            if odd == "upper" and not isinstance(odd, EqualToAll):
                continue
            plays = Duel(TWO).play(0, ["upper", odd, "draw", None])
            self.assert_same([next(plays), next(plays)], [(0, 0), (3, 1)])
            self.refuses(BadGame, "value", 1, next, plays)
        plays = Duel(TWO).play(0, ["upper", "upper", "lower"])
        self.assert_same([next(plays), next(plays), next(plays)], [(0, 0), (3, 1), (6, 2)])
        self.refuses(BadGame, "value", 2, next, plays)
        plays = Duel(TWO).play(0, ["draw"])
        self.assert_same(next(plays), (0, 0))
        self.refuses(BadGame, "value", 0, next, plays)

    def test_a_list_that_is_changed(self):
        results = ["upper", "upper"]
        plays = Duel(TWO).play(0, results)
        results.append("upper")
        self.assert_same(next(plays), (0, 0))
        results.clear()
        results.append(None)
        self.assert_same(list(plays), [(3, 1), (6, 2), (7, 3)])


if __name__ == "__main__":
    unittest.main()
