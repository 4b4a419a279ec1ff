"""Promises: chances, drifts, turns and summits, greatest mean ratings with plans; their errors in order."""

from fractions import Fraction
import random
import time
import unittest

from liftedladders.books import Book
from liftedladders.chances import Chances, best_plan, drift, greatest_mean, mean_of, summit, turns
from liftedladders.errors import BadChances, BadNumber, BadOpponent, BadPlace, BadPlan, UnknownPlace
from liftedladders.numbers import fraction
from tests.support import Case, EqualToAll, ODD, simple_book, some_book

SURE, HALF, NEVER = (1, 1), (1, 2), (0, 1)
EVEN = (0, (1, 4), (1, 2), (1, 4))
ROWS = [EVEN, (10, (1, 2), (1, 3), (1, 6)), (40, SURE, NEVER, NEVER)]
ODD_STRENGTHS = ODD + (-1, 100, 10 ** 30, "0", (0,), EqualToAll())


def some_chances(chance):
    rows = []
    for border in [0] + sorted(chance.sample(range(1, 100), chance.randint(0, 5))):
        under = chance.choice([1, 2, 3, 10, 97])
        win = chance.randint(0, under)
        draw = chance.randint(0, under - win)
        rows.append((border, fraction(win, under), fraction(draw, under), fraction(under - win - draw, under)))
    return Chances(rows)


def some_strength(chance):
    return chance.choice([0, 99, chance.randint(0, 99), 50])


def some_opponents(chance, book, most=4):
    return [(chance.choice(book.places()), some_strength(chance)) for _ in range(chance.randint(0, most))]


def told_ends(book, chances, place, strength, other, others):
    """The list of (chance, place behind), by the definition, with Python's own fractions."""
    row = [row for row in chances.rows() if row[0] <= abs(strength - others)][-1]
    win, draw, loss = [Fraction(*part) for part in row[1:]]
    if strength < others:
        win, loss = loss, win
    if strength == others:
        win = loss = (1 - draw) / 2
    ends = []
    for result, told in (("win", win), ("draw", draw), ("loss", loss)):
        if place[0] >= other[0]:
            behind = book.game(place, other, {"win": "upper", "draw": "draw", "loss": "lower"}[result])
            ends.append((told, place if behind is None else behind[0]))
        else:
            behind = book.game(other, place, {"win": "lower", "draw": "draw", "loss": "upper"}[result])
            ends.append((told, place if behind is None else behind[1]))
    return ends


def told_drift(book, chances, place, strength, other, others):
    return sum(told * (behind[0] - place[0])
               for told, behind in told_ends(book, chances, place, strength, other, others))


def told_turn(book, chances, strength, opponents, rating):
    drifts = [told_drift(book, chances, (rating, 0), strength, *opponent) for opponent in opponents]
    if any(told > 0 for told in drifts):
        return 1
    return -1 if drifts and max(drifts) < 0 else 0


def told_best(book, chances, place, strength, opponents, games):
    """The greatest mean rating, by trying each opponent at each place."""
    if games == 0:
        return Fraction(place[0])
    means = [Fraction(place[0])]
    for opponent in opponents:
        means.append(sum(told * told_best(book, chances, behind, strength, opponents, games - 1)
                         for told, behind in told_ends(book, chances, place, strength, *opponent) if told))
    return max(means)


def told_mean(book, chances, place, strength, opponents, games, plan):
    if games == 0 or plan[(games, place)] is None:
        return Fraction(place[0])
    opponent = opponents[plan[(games, place)]]
    return sum(told * told_mean(book, chances, behind, strength, opponents, games - 1, plan)
               for told, behind in told_ends(book, chances, place, strength, *opponent) if told)


def as_pair(told):
    told = Fraction(told)
    return (told.numerator, told.denominator)


class ChancesTest(Case):
    def test_rows(self):
        chances = Chances(ROWS)
        self.assert_same(chances.rows(), ROWS)
        self.assert_same(Chances(rows=tuple(ROWS)).rows(), ROWS)
        self.assert_same(len(chances), 3)
        self.assert_same(len(Chances([EVEN])), 1)
        six = [(border, *EVEN[1:]) for border in (0, 1, 2, 3, 98, 99)]
        self.assert_same(len(Chances(six)), 6)

    def test_rows_are_new(self):
        rows = list(ROWS)
        chances = Chances(rows)
        rows.pop()
        chances.rows().clear()
        self.assert_same(chances.rows(), ROWS)

    def test_equal(self):
        self.assertEqual(Chances(ROWS), Chances(tuple(ROWS)))
        self.assertFalse(Chances(ROWS) != Chances(ROWS))
        for other in (Chances(ROWS[:2]), Chances([(0, HALF, NEVER, HALF)] + ROWS[1:]), ROWS, tuple(ROWS), None, 3):
            self.assertFalse(Chances(ROWS) == other)
            self.assertFalse(other == Chances(ROWS))

    def test_called(self):
        chances = Chances(ROWS)
        third, sixth = (1, 3), (1, 6)
        for one, other, told in ((0, 0, ((1, 4), HALF, (1, 4))), (9, 0, EVEN[1:]), (10, 0, (HALF, third, sixth)),
                                 (0, 10, (sixth, third, HALF)), (99, 60, (HALF, third, sixth)),
                                 (99, 59, (SURE, NEVER, NEVER)), (59, 99, (NEVER, NEVER, SURE)),
                                 (60, 99, (sixth, third, HALF)), (99, 99, ((1, 4), HALF, (1, 4)))):
            self.assert_same(chances(one, other), told)
            self.assert_same(chances(other=other, one=one), told)

    def test_equal_strengths_share_what_the_draw_leaves(self):
        for win, draw, loss, told in ((SURE, NEVER, NEVER, HALF), (NEVER, NEVER, SURE, HALF), (NEVER, SURE, NEVER, NEVER),
                                      ((2, 3), (1, 3), NEVER, (1, 3)), ((1, 5), (2, 5), (2, 5), (3, 10))):
            chances = Chances([(0, win, draw, loss)])
            self.assert_same(chances(7, 7), (told, draw, told))
            self.assert_same(chances(8, 7), (win, draw, loss))
            self.assert_same(chances(7, 8), (loss, draw, win))

    def test_refused(self):
        for odd in (None, [], (), {}, {0: EVEN}, {EVEN}, "rows", 0, object(), [EVEN] * 7, tuple([EVEN]) * 7, [None] * 7,
                    EqualToAll()):
            self.refuses_itself(BadChances, "index", None, Chances, odd)
            self.refuses_itself(BadChances, "index", None, Chances, rows=odd)
        rows = [(border, *EVEN[1:]) for border in range(5)]
        third = (1, 3)
        for odd in ODD + (list(EVEN), EVEN[:3], EVEN + (0,), (0, HALF, HALF, HALF), (0, third, third, NEVER),
                          (0, (-1, 2), SURE, HALF), (0, (3, 2), NEVER, (-1, 2)), (0, (2, 4), NEVER, HALF),
                          (0, 1, NEVER, NEVER), (0, True, NEVER, NEVER), (0, [1, 1], NEVER, NEVER), EqualToAll(),
                          (False, *EVEN[1:]), (0, (1, True), NEVER, NEVER), (None, *EVEN[1:]), ("0", *EVEN[1:]),
                          (-1, *EVEN[1:]), (100, *EVEN[1:]), (0, (0, 2), SURE, NEVER)):
            for index in range(5):
                told = rows[:index] + [odd] + rows[index + 1:]
                self.refuses_itself(BadChances, "index", index, Chances, told)
                self.refuses_itself(BadChances, "index", index, Chances, tuple(told) + (odd,))
        for odd, index in (([1], 0), ([99, 0], 0), ([0, 0], 1), ([0, 5, 5], 2), ([0, 5, 4, 3], 2), ([0, 1, 0], 2)):
            self.refuses(BadChances, "index", index, Chances, [(border, *EVEN[1:]) for border in odd])
        self.refuses(BadChances, "index", 0, Chances, [(1, *EVEN[1:]), None])
        self.refuses(BadChances, "index", 1, Chances, [EVEN, EVEN, None])

    def test_strengths_refused(self):
        chances = Chances(ROWS)
        for odd in ODD_STRENGTHS:
            for told in ((odd, 0), (odd, None), (odd, -1)):
                self.refuses_itself(BadNumber, "number", odd, chances, *told)
            self.refuses_itself(BadNumber, "number", odd, chances, 99, odd)
            self.refuses_itself(BadNumber, "number", odd, chances, other=odd, one=0)


class DriftTest(Case):
    def test_told(self):
        book = simple_book()
        chances = Chances([(0, (2, 3), NEVER, (1, 3)), (50, SURE, NEVER, NEVER)])
        # The one with rating 1 wins, or falls to 0; at 0 one only rises, at 2 one only falls.
        for place, strength, other, others, told in ((1, 20, 1, 10, (1, 3)), (1, 10, 1, 20, (-1, 3)), (1, 9, 1, 9, (0, 1)),
                                                     (0, 10, 2, 20, (1, 3)), (2, 20, 0, 10, (-1, 3)), (0, 9, 0, 9, HALF),
                                                     (2, 60, 1, 10, (0, 1)), (2, 10, 1, 60, (-1, 1))):
            self.assert_same(drift(book, chances, (place, 0), strength, (other, 0), others), told)
            self.assert_same(drift(others=others, other=(other, 0), strength=strength, place=(place, 0), chances=chances,
                                   book=book), told)

    def test_results_that_do_not_count(self):
        chances = Chances([(0, (1, 5), (2, 5), (2, 5))])
        book = Book(0, 9, [(0, (3, -1), None, (-2, 2)), (2, None, None, None)])
        self.assert_same(drift(book, chances, (5, 0), 9, (5, 0), 1), (-1, 5))
        self.assert_same(drift(book, chances, (5, 0), 1, (5, 0), 9), (4, 5))
        self.assert_same(drift(book, chances, (5, 0), 9, (6, 0), 1), (0, 1))
        self.assert_same(drift(book, chances, (5, 0), 9, (7, 0), 1), (0, 1))
        self.assert_same(drift(book, chances, (5, 0), 9, (3, 0), 1), (0, 1))

    def test_of_equal_ratings_the_player_is_the_upper_one(self):
        book = Book(0, 9, [(0, (3, 0), (2, 0), (1, 0))])
        chances = Chances([(0, HALF, (1, 4), (1, 4))])
        self.assert_same(drift(book, chances, (4, 0), 1, (4, 0), 0), (9, 4))
        self.assert_same(drift(book, chances, (4, 0), 1, (5, 0), 0), (0, 1))

    def test_newcomers_and_bonuses(self):
        fresh = Book(0, 7, [(0, (1, -1), (0, 0), (-1, 1))], fresh=2, times=3)
        sure = Chances([(0, SURE, NEVER, NEVER)])
        self.assert_same(drift(fresh, sure, (2, 2), 1, (2, 0), 0), (3, 1))
        self.assert_same(drift(fresh, sure, (2, 0), 1, (2, 2), 0), SURE)
        self.assert_same(drift(fresh, sure, (6, 1), 1, (2, 2), 0), SURE)
        bonus = Book(0, 9, [(0, (1, -1), (0, 0), (-1, 1))], bonus=4)
        self.assert_same(drift(bonus, sure, (2, 1), 1, (7, 0), 0), (5, 1))
        self.assert_same(drift(bonus, sure, (2, 0), 1, (7, 1), 0), SURE)

    def test_many(self):
        chance = random.Random(131)
        found = {-1: 0, 0: 0, 1: 0}
        for _ in range(1500):
            book, chances = some_book(chance), some_chances(chance)
            place, other = chance.choice(book.places()), chance.choice(book.places())
            strength, others = some_strength(chance), some_strength(chance)
            told = told_drift(book, chances, place, strength, other, others)
            self.assert_same(drift(book, chances, place, strength, other, others), as_pair(told))
            found[(told > 0) - (told < 0)] += 1
        self.assertGreater(min(found.values()), 100)

    def test_refused(self):
        book, chances = simple_book(), Chances(ROWS)
        for odd in ODD + ((3, 0), (0, 1), (False, 0), (0, False), [0, 0], 0, (0,), EqualToAll()):
            self.refuses_itself(UnknownPlace, "place", odd, drift, book, chances, odd, 0, (0, 0), 0)
            self.refuses_itself(UnknownPlace, "place", odd, drift, book, chances, odd, None, None, None)
            self.refuses_itself(UnknownPlace, "place", odd, drift, book, chances, (0, 0), 0, odd, 0)
            self.refuses_itself(UnknownPlace, "place", odd, drift, book, chances, (0, 0), None, odd, None)
        for odd in ODD_STRENGTHS:
            self.refuses_itself(BadNumber, "number", odd, drift, book, chances, (0, 0), odd, (0, 0), -1)
            self.refuses_itself(BadNumber, "number", odd, drift, book, chances, (0, 0), 0, (0, 0), odd)


class TurnsTest(Case):
    def test_told(self):
        book = Book(2, 7, [(0, (1, -1), (0, 0), (-1, 1))])
        chances = Chances([(0, (2, 3), NEVER, (1, 3))])
        strong, weak, alike = ((4, 0), 60), ((4, 0), 40), ((4, 0), 50)
        for opponents, told in (([weak], [1, 1, 1, 1, 1, -1]), ([strong], [1, -1, -1, -1, -1, -1]),
                                ([alike], [1, 0, 0, 0, 0, -1]), ([alike, strong], [1, 0, 0, 0, 0, -1]),
                                ([strong, weak], [1, 1, 1, 1, 1, -1]), ([], [0] * 6), ((), [0] * 6),
                                ((strong, strong), [1, -1, -1, -1, -1, -1])):
            self.assert_same(turns(book, chances, 50, opponents), dict(zip(range(2, 8), told)))
            self.assert_same(turns(opponents=opponents, strength=50, chances=chances, book=book),
                             dict(zip(range(2, 8), told)))

    def test_drifts_that_cancel(self):
        book = Book(0, 9, [(0, (3, 0), (0, 0), (-3, 0)), (2, None, None, None)])
        self.assert_same(turns(book, Chances([EVEN]), 5, [((4, 0), 5)]),
                         {0: 0, 1: 0, 2: 0, 3: 0, 4: 0, 5: 0, 6: 0, 7: 0, 8: 0, 9: 0})

    def test_many(self):
        chance = random.Random(132)
        found = {-1: 0, 0: 0, 1: 0}
        for _ in range(250):
            book, chances = some_book(chance), some_chances(chance)
            strength, opponents = some_strength(chance), some_opponents(chance, book)
            ratings = range(book.low, book.high + 1)
            told = {rating: told_turn(book, chances, strength, opponents, rating) for rating in ratings}
            self.assert_same(turns(book, chances, strength, opponents), told)
            for rating in ratings:
                still = [at for at in ratings if at >= rating and told[at] < 1]
                self.assert_same(summit(book, chances, strength, opponents, rating), still[0] if still else book.high)
                found[told[rating]] += 1
        self.assertGreater(min(found.values()), 100)

    def test_summit(self):
        book = Book(0, 9, [(0, (1, -1), (0, 0), (-1, 1)), (3, (0, -1), (0, 0), (-1, 1))])
        chances = Chances([(0, (2, 3), NEVER, (1, 3))])
        opponents = [((2, 0), 10)]
        for rating, told in ((0, 5), (4, 5), (5, 5), (6, 6), (9, 9)):
            self.assert_same(summit(book, chances, 50, opponents, rating), told)
            self.assert_same(summit(rating=rating, opponents=opponents, strength=50, chances=chances, book=book), told)
        self.assert_same(summit(book, chances, 50, [], 3), 3)
        self.assert_same(summit(Book(0, 9, [(0, (1, 0), (1, 0), (1, 0))]), chances, 50, [((0, 0), 0)], 3), 9)

    def test_refused(self):
        book, chances = simple_book(), Chances(ROWS)
        for odd in ODD_STRENGTHS:
            self.refuses_itself(BadNumber, "number", odd, turns, book, chances, odd, [])
            self.refuses_itself(BadNumber, "number", odd, summit, book, chances, odd, [((0, 0), 0)], None)
        for odd in ODD + (-1, 3, EqualToAll()):
            self.refuses_itself(BadPlace, "place", odd, summit, book, chances, 0, [], odd)
        opponents_refused(self, lambda opponents: turns(book, chances, None, opponents))
        opponents_refused(self, lambda opponents: summit(book, chances, None, opponents, None))
        low = Book(5, 6, [(0, None, None, None)])
        self.refuses(BadPlace, "place", 4, summit, low, chances, 0, [], 4)
        self.refuses(BadPlace, "place", 7, summit, low, chances, 0, [], 7)


def opponents_refused(case, call):
    """Each value that is no list of opponents of the simple book is refused, ahead of anything else."""
    for odd in (None, {}, {((0, 0), 0): 1}, {((0, 0), 0)}, "", 0, True, object(), EqualToAll()):
        case.refuses_itself(BadOpponent, "index", None, call, odd)
    for odd in ODD + (((3, 0), 0), ((0, 1), 0), ((0, 0), -1), ((0, 0), 100), ((0, 0), True), [(0, 0), 0], ((0, 0),),
                      ((0, 0), 0, 0), ((False, 0), 0), ([0, 0], 0), (0, 0), ((0, 0), "0"), ((0, 0), None), EqualToAll(),
                      (EqualToAll(), 0), ((0, 0), EqualToAll())):
        for index in range(3):
            told = [((0, 0), 0), ((2, 0), 99)][:index] + [odd, None]
            case.refuses_itself(BadOpponent, "index", index, call, told)
            case.refuses_itself(BadOpponent, "index", index, call, tuple(told))


class PlansTest(Case):
    def test_told(self):
        book = Book(0, 5, [(0, (1, -1), (0, 0), (-1, 1)), (3, (0, 0), (0, 0), (-3, 3))])
        chances = Chances([(0, HALF, NEVER, HALF)])
        opponents = [((0, 0), 50), ((5, 0), 50)]
        # At 2 one wins 3 or loses nothing against the one at 5; then one stays.
        self.assert_same(greatest_mean(book, chances, (2, 0), 50, opponents, 1), (7, 2))
        self.assert_same(greatest_mean(book, chances, (2, 0), 50, opponents, 2), (17, 4))
        self.assert_same(greatest_mean(book, chances, (5, 0), 50, opponents, 9), (5, 1))
        self.assert_same(greatest_mean(book, chances, (2, 0), 50, opponents, 0), (2, 1))
        self.assert_same(greatest_mean(book, chances, (2, 0), 50, [], 12), (2, 1))
        plan = best_plan(book, chances, (2, 0), 50, opponents, 1)
        self.assert_same(plan[(1, (2, 0))], 1)
        self.assert_same(plan[(1, (5, 0))], None)
        self.assert_same(best_plan(book, chances, (2, 0), 50, opponents, 0), {})
        self.assert_same(mean_of(book, chances, (2, 0), 50, opponents, 0, {}), (2, 1))

    def test_a_game_that_does_not_count_is_one_of_the_games(self):
        book = Book(0, 9, [(0, (1, -1), None, (-1, 1))])
        chances = Chances([(0, HALF, HALF, NEVER)])
        self.assert_same(greatest_mean(book, chances, (0, 0), 9, [((0, 0), 1)], 1), HALF)
        self.assert_same(greatest_mean(book, chances, (0, 0), 9, [((0, 0), 1)], 4), (2, 1))
        self.assert_same(greatest_mean(book, chances, (0, 0), 9, [((0, 0), 1)], 9), (9, 2))

    def test_fewer_games_may_be_played(self):
        book = Book(0, 9, [(0, (-1, 1), (0, 0), (-1, 1))])
        chances = Chances([(0, SURE, NEVER, NEVER)])
        self.assert_same(greatest_mean(book, chances, (4, 0), 9, [((0, 0), 1)], 5), (4, 1))
        plan = best_plan(book, chances, (4, 0), 9, [((0, 0), 1)], 5)
        self.assertTrue(all(plan[(left, (4, 0))] is None for left in range(1, 6)))
        always = {key: 0 for key in plan}
        self.assert_same(mean_of(book, chances, (4, 0), 9, [((0, 0), 1)], 3, always), SURE)

    def test_names_in_any_order(self):
        book, chances, opponents = simple_book(), Chances(ROWS), [((0, 0), 3)]
        told = {"games": 2, "opponents": opponents, "strength": 20, "place": (1, 0), "chances": chances, "book": book}
        plan = best_plan(**told)
        self.assert_same(greatest_mean(**told), greatest_mean(book, chances, (1, 0), 20, opponents, 2))
        self.assert_same(mean_of(plan=plan, **told), greatest_mean(**told))
        self.assert_same(greatest_mean(book, chances, (1, 0), 20, tuple(opponents), 2), greatest_mean(**told))

    def test_many(self):
        chance = random.Random(133)
        found = {"up": 0, "still": 0, "chosen": 0}
        for _ in range(300):
            book, chances = some_book(chance, chance.choice([3, 7, 23])), some_chances(chance)
            strength, opponents = some_strength(chance), some_opponents(chance, book, 3)
            place, games = chance.choice(book.places()), chance.randint(0, 3)
            told = (book, chances, place, strength, opponents, games)
            best = greatest_mean(*told)
            self.assert_same(best, as_pair(told_best(*told)))
            plan = best_plan(*told)
            self.assert_same(sorted(plan), [(left, at) for left in range(1, games + 1) for at in book.places()])
            self.assertTrue(all(index is None or type(index) is int and 0 <= index < len(opponents)
                                for index in plan.values()))
            self.assert_same(mean_of(*told, plan), best)
            self.assert_same(as_pair(told_mean(*told, plan)), best)
            found["up" if best != (place[0], 1) else "still"] += 1
            found["chosen"] += len(set(plan.values()) - {None}) > 1
        self.assertGreater(min(found.values()), 20)

    def test_any_plan(self):
        chance = random.Random(134)
        for _ in range(200):
            book, chances = some_book(chance, 7), some_chances(chance)
            strength, opponents = some_strength(chance), some_opponents(chance, book, 3)
            place, games = chance.choice(book.places()), chance.randint(0, 4)
            plan = {(left, at): chance.choice([None] + list(range(len(opponents))) * 2)
                    for left in range(1, games + 1) for at in book.places()}
            told = (book, chances, place, strength, opponents, games)
            mean = mean_of(*told, plan)
            self.assert_same(mean, as_pair(told_mean(*told, plan)))
            self.assertLessEqual(Fraction(*mean), Fraction(*greatest_mean(*told)))
            more = {**plan, (games + 1, place): "x", (0, place): True, "key": 3, (1, (99, 0)): 77, None: None, (1,): 9}
            self.assert_same(mean_of(*told, more), mean)

    def test_twelve_games(self):
        book = Book(0, 23, [(0, (1, -1), (0, 0), (-1, 1)), (3, (1, -2), (-1, 1), (-2, 3)), (9, None, (0, 1), (-9, 9))])
        chances = Chances([(0, (7, 97), (13, 97), (77, 97)), (5, (1, 89), (2, 89), (86, 89)), (9, HALF, (1, 4), (1, 4))])
        opponents = [((rating, 0), (37 * rating) % 100) for rating in range(24)]
        start = time.perf_counter()
        told = (book, chances, (3, 0), 44, opponents, 12)
        plan = best_plan(*told)
        self.assert_same(mean_of(*told, plan), greatest_mean(*told))
        self.assertEqual(len(plan), 12 * 24)
        self.assertLess(time.perf_counter() - start, 5)

    def test_told_plans_are_new(self):
        told = (simple_book(), Chances(ROWS), (0, 0), 20, [((0, 0), 3)], 2)
        plan = best_plan(*told)
        kept = dict(plan)
        mean_of(*told, plan)
        self.assert_same(plan, kept)
        plan.clear()
        self.assert_same(best_plan(*told), kept)
        turns(*told[:2], 20, told[4]).clear()
        self.assert_same(turns(*told[:2], 20, told[4]), {0: 1, 1: 1, 2: -1})
        self.assert_same(told[4], [((0, 0), 3)])

    def test_refused_in_order(self):
        book, chances, opponents = simple_book(), Chances(ROWS), [((0, 0), 3)]
        for call, more in ((greatest_mean, ()), (best_plan, ()), (mean_of, (None,))):
            opponents_refused(self, lambda told: call(book, chances, None, None, told, None, *more))
            for odd in ODD_STRENGTHS:
                self.refuses_itself(BadNumber, "number", odd, call, book, chances, None, odd, opponents, None, *more)
            for odd in ODD + ((3, 0), (0, 1), (False, 0), [0, 0], EqualToAll()):
                self.refuses_itself(UnknownPlace, "place", odd, call, book, chances, odd, 3, opponents, None, *more)
            for odd in ODD + (-1, 13, 10 ** 30, "1", EqualToAll()):
                self.refuses_itself(BadNumber, "number", odd, call, book, chances, (0, 0), 3, opponents, odd, *more)
        for odd in (None, [], (), "", 0, True, object(), [((1, (0, 0)), None)], {(1, (0, 0))}, EqualToAll()):
            for games in (0, 2):
                self.refuses_itself(BadPlan, "key", None, mean_of, book, chances, (0, 0), 3, opponents, games, odd)

    def test_plans_refused(self):
        book, chances, opponents = simple_book(), Chances(ROWS), [((0, 0), 3), ((1, 0), 5)]
        told = (book, chances, (0, 0), 3, opponents, 2)
        plan = {(left, place): 1 for left in (1, 2) for place in book.places()}
        for key in plan:
            lacks = {other: plan[other] for other in plan if other != key}
            self.refuses(BadPlan, "key", key, mean_of, *told, lacks)
            for odd in ODD[1:] + (-1, 2, "0", (0,), EqualToAll()):
                self.refuses(BadPlan, "key", key, mean_of, *told, {**plan, key: odd})
            mean_of(*told, {**plan, key: None})
            mean_of(*told, {**plan, key: 0})
        # The least key by the games that are left, then by place, in whatever order the dict has them.
        self.refuses(BadPlan, "key", (1, (2, 0)), mean_of, *told,
                     {(2, (0, 0)): 9, (1, (2, 0)): 9, (1, (0, 0)): 0, (1, (1, 0)): None})
        # True and False are no integers, in a key either.
        as_true = {(True, place): 1 for place in book.places()} | {(2, place): 1 for place in book.places()}
        self.refuses(BadPlan, "key", (1, (0, 0)), mean_of, *told, as_true)
        as_false = {key: plan[key] for key in plan if key != (2, (0, 0))} | {(2, (0, False)): 1}
        self.refuses(BadPlan, "key", (2, (0, 0)), mean_of, *told, as_false)
        self.refuses(BadPlan, "key", (1, (0, 0)), mean_of, book, chances, (0, 0), 3, [], 1,
                     {(1, place): 0 for place in book.places()})


if __name__ == "__main__":
    unittest.main()
