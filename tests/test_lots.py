"""Promises: lots as told and refused, rows of moves."""

from fractions import Fraction
import random
import unittest

from liftedladders.errors import BadLot, BadMove, BadWorths
from liftedladders.lots import Lot, lots_behind
from tests.support import Case, ODD, some_ways
from tests.test_ways import NO_MOVES

A, B, C = (0,), (1, -5), (2, 3)
MANY = 10 ** 30


class ToldTest(Case):
    def test_numbers(self):
        lot = Lot({C: 2, A: 1, B: 0})
        self.assert_same([lot[place] for place in (A, B, C, (9,))], [1, 0, 2, 0])
        self.assert_same(lot.places(), [A, C])
        self.assert_same(lot.total(), 3)
        self.assert_same([place in lot for place in (A, B, C, (9,))], [True, False, True, False])
        self.assert_same((Lot({}).places(), Lot({}).total()), ([], 0))
        self.assert_same(Lot(counts={A: MANY}).total(), MANY)

    def test_any_value(self):
        lot = Lot({(0,): 3, (1, 0): 4})
        for odd in ODD + ([0], (False,), (1, False), 0, ((0,),), {A}):
            self.assert_same(lot[odd], 0)
            self.assert_truth(odd in lot, False)

    def test_added(self):
        one, other = Lot({A: 1, B: 2}), Lot({B: 3, C: 4})
        both = one + other
        self.assertIsInstance(both, Lot)
        self.assert_same([both[place] for place in (A, B, C)], [1, 5, 4])
        self.assert_same((one.total(), other.total(), both.total()), (3, 7, 10))
        self.assertEqual(one + Lot({}), one)

    def test_at_most(self):
        for one, other, holds in (({A: 1}, {A: 1}, True), ({A: 1}, {A: 2, B: 1}, True), ({A: 2}, {A: 1, B: 9}, False),
                                  ({A: 1}, {B: 1}, False), ({}, {}, True), ({}, {A: 1}, True), ({A: 0}, {}, True)):
            self.assert_truth(Lot(one) <= Lot(other), holds)

    def test_equal(self):
        self.assert_truth(Lot({A: 1, B: 0}) == Lot({A: 1}), True)
        self.assert_truth(Lot({A: 1, B: 2}) == Lot({B: 2, A: 1}), True)
        self.assert_truth(Lot({A: 1}) == Lot({A: 2}), False)
        self.assert_truth(Lot({A: 1}) != Lot({B: 1}), True)
        for odd in ODD + ({A: 1}, [A]):
            self.assert_truth(Lot({A: 1}) == odd, False)
            self.assert_truth(odd == Lot({A: 1}), False)

    def test_at(self):
        self.assertEqual(Lot.at(A, 3), Lot({A: 3}))
        self.assertEqual(Lot.at(place=B, many=0), Lot({}))
        self.assertEqual(Lot({C: 1}).at(A, 2), Lot({A: 2}))

    def test_mean(self):
        lot = Lot({A: 1, B: 3})
        self.assert_same(lot.mean({A: 2, B: -2}), (-1, 1))
        self.assert_same(lot.mean(worths={A: 0, B: 2, C: None, "x": 1}), (3, 2))
        self.assert_same(lot.mean({A: 5, B: 5}), (5, 1))
        self.assert_same(Lot({A: MANY, B: 1}).mean({A: MANY, B: 0}), (MANY * MANY, MANY + 1))

    def test_can_and_after(self):
        lot = Lot({A: 2, B: 1})
        self.assertEqual(lot.after(((A,), "", (C,))), Lot({A: 1, B: 1, C: 1}))
        self.assertEqual(lot.after(((A, A), "", (A, C))), Lot({A: 1, B: 1, C: 1}))
        self.assertEqual(lot.after(move=((A, B), "", (B, B))), Lot({A: 1, B: 2}))
        self.assertEqual(Lot({A: 4}).after(((A, A, A, A), "", (B, C, B, B))), Lot({B: 3, C: 1}))
        for move, holds in ((((A,), "", (C,)), True), (((C,), "", (A,)), False), (((A, A), "", (B, B)), True),
                            (((B, B), "", (B, B)), False), (((A, A, B, A), "", (A, A, A, A)), False),
                            (((A, A, B, C), "", (A, A, B, C)), False), (((A, B), "", (A, B)), True)):
            self.assert_truth(lot.can(move), holds)
        self.assertEqual(lot, Lot({A: 2, B: 1}))

    def test_what_is_handed_in_stays(self):
        counts = {A: 2, B: 0}
        lot = Lot(counts)
        lot.after(((A,), "", (C,)))
        self.assert_same(counts, {A: 2, B: 0})
        counts[A] = 9
        counts[C] = 1
        lot.places().clear()
        self.assert_same((lot.places(), lot[A]), ([A], 2))
        worths = {A: 1, "x": 2}
        lot.mean(worths)
        self.assert_same(worths, {A: 1, "x": 2})

    def test_not_iterated(self):
        for call in (iter, list, tuple, lambda it: [*it], lambda it: [place for place in it]):
            with self.assertRaises(TypeError):
                call(Lot({A: 1}))


class RefusedTest(Case):
    def test_counts(self):
        for odd in ODD:
            if not isinstance(odd, dict):
                self.refuses(BadLot, "place", None, Lot, odd)
        for odd in (None, "a", 1, (), (True,), (0, False), ("0",), ((0,),), b"x", True, 0, -1):
            self.refuses(BadLot, "place", odd, Lot, {A: 1, odd: 1, B: -1})
        for odd in ODD + (-1, -MANY):
            self.refuses(BadLot, "place", B, Lot, {A: 1, B: odd, "x": 1})

    def test_at(self):
        for odd in ODD + ([0], 0):
            self.refuses(BadLot, "place", odd, Lot.at, odd, -1)
        for odd in ODD + (-1,):
            self.refuses(BadLot, "place", A, Lot.at, A, odd)

    def test_no_lots(self):
        lot = Lot({A: 1})
        for odd in ODD + ({A: 1}, 0, 1):
            self.refuses(BadLot, "place", odd, lot.__add__, odd)
            self.refuses(BadLot, "place", odd, lot.__le__, odd)

    def test_moves(self):
        lot = Lot({A: 2, (1, 0): 3})
        for odd in NO_MOVES + (((B,), "", (A,)), ((A, A, A, A), "", (A, A, A, A)), (((True, 0),), "", (A,))):
            self.assert_truth(lot.can(odd), False)
            self.refuses(BadMove, "index", odd, lot.after, odd)

    def test_mean(self):
        self.refuses(BadLot, "place", None, Lot({}).mean, None)
        self.refuses(BadLot, "place", None, Lot({A: 0}).mean, {A: 1})
        lot = Lot({C: 1, B: 2, A: 0})
        for odd in ODD + (0, [B], "x"):
            self.refuses(BadWorths, "place", B, lot.mean, odd)
        self.refuses(BadWorths, "place", B, lot.mean, {})
        self.refuses(BadWorths, "place", C, lot.mean, {B: 1})
        self.refuses(BadWorths, "place", B, lot.mean, {C: 1, A: 1})
        for odd in ODD:
            self.refuses(BadWorths, "place", C, lot.mean, {B: 1, C: odd, A: 1})
        self.refuses(BadWorths, "place", (1, 0), Lot.at((1, 0), 1).mean, {(True, False): 5})


class RowsTest(Case):
    def test_row(self):
        moves = [((A, A), "", (B, A)), ((A, B), "", (C, C)), ((C,), "", (A,))]
        for kind in (list, tuple):
            lots = list(lots_behind(Lot({A: 2}), kind(moves)))
            self.assertEqual(lots, [Lot({A: 2}), Lot({A: 1, B: 1}), Lot({C: 2}), Lot({A: 1, C: 1})])
        self.assertEqual(list(lots_behind(lot=Lot({}), moves=[])), [Lot({})])

    def test_lots_ahead_of_the_bad_move(self):
        good = ((A,), "", (B,))
        for odd in NO_MOVES + (((A, A), "", (A, A)), ((C,), "", (A,))):
            lots = lots_behind(Lot({A: 2}), [good, odd, good])
            self.assertEqual([next(lots), next(lots)], [Lot({A: 2}), Lot({A: 1, B: 1})])
            self.refuses(BadMove, "index", 1, next, lots)
        lots = lots_behind(Lot({B: 1}), [good])
        self.assertEqual(next(lots), Lot({B: 1}))
        self.refuses(BadMove, "index", 0, next, lots)

    def test_read_when_the_first_is_asked_for(self):
        moves = [((A,), "", (B,))]
        lots = lots_behind(Lot({A: 1}), moves)
        self.assertEqual(next(lots), Lot({A: 1}))
        moves.append(None)
        moves[0] = None
        self.assertEqual(list(lots), [Lot({B: 1})])

    def test_rows_made_one_after_the_other(self):
        chance = random.Random(8)
        for _ in range(200):
            ways = some_ways(chance)
            counts = {place: chance.randint(0, 5) for place in ways.places()}
            worths = {place: chance.randint(-9, 9) for place in ways.places()}
            lot, moves, lots = Lot(counts), [], [Lot(counts)]
            for move in ways.moves() * 2:
                holds = all(counts[place] >= move[0].count(place) for place in ways.places())
                self.assert_truth(lot.can(move), holds)
                if holds:
                    for place in ways.places():
                        counts[place] += move[2].count(place) - move[0].count(place)
                    lot = lot.after(move)
                    self.assertEqual(lot, Lot(counts))
                    moves.append(move)
                    lots.append(lot)
            self.assertEqual(list(lots_behind(lots[0], moves)), lots)
            if lot.total():
                mean = Fraction(sum(counts[place] * worths[place] for place in counts), sum(counts.values()))
                self.assertEqual(lot.mean(worths), (mean.numerator, mean.denominator))


if __name__ == "__main__":
    unittest.main()
