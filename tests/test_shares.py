"""Promises: greatest means, lifts, shares, told again."""

from fractions import Fraction
from math import lcm
import random
import unittest

from liftedladders.errors import BadMove, BadNumber, BadWorths, TooMany, UnknownPlace
from liftedladders.lots import Lot, lots_behind
from liftedladders.numbers import is_fraction
from liftedladders.reaching import climb, climb_moves, friends_of, reached
from liftedladders.shares import best_batch, best_price, greatest, lift, rest_of, share_at
from liftedladders.ways import Ways, ways_of
from tests.support import Case, ODD, many_ways, simple_book, some_book, some_ways

A, B, C, D = (0,), (1,), (2,), (3,)
UP = ((A, A), "up", (B, A))
FOUR = ((A, A, B, B), "four", (C, A, A, A))
BACK = ((B,), "back", (A,))
AWAY = ((D,), "away", (C,))
NEVER = 10 ** 9


def small_ways():
    return Ways([A, B, C, D], [UP, FOUR, BACK, AWAY])


def pair(value):
    return (value.numerator, value.denominator)


def some_worths(chance, ways):
    low, high = chance.choice([(-999, 999), (-2, 2), (0, 1), (-9, -5), (3, 3), (0, 999)])
    return {place: chance.randint(low, high) for place in ways.places()}


def told_rest(ways, start, batch):
    """The rest of a batch by the definition, as dict of Fraction."""
    rest = {place: Fraction(0) for place in reached(ways, start)}
    rest[start] += 1
    for index, times in batch:
        for place in ways[index][0]:
            rest[place] -= Fraction(*times)
        for place in ways[index][2]:
            rest[place] += Fraction(*times)
    return rest


def last_lot(lot, moves):
    *_, last = lots_behind(lot, moves)
    return last


def moves_by_the_document(ways, start, worths, mean):
    """How many moves the interface's own way of lifting makes: climbs to all ins, and the batch behind them."""
    batch = best_batch(ways, start, worths)
    whole = lcm(*[times[1] for _, times in batch])
    made = [(ways[index], times[0] * whole // times[1]) for index, times in batch]
    stock, many = {}, 0
    for move, times in made:
        for place in move[0]:
            way = climb(ways, start, place)
            try:
                moves = climb_moves(ways, start, way)
            except TooMany:
                return NEVER
            many += len(moves) * times
            last = last_lot(Lot.at(start, friends_of(ways, start, way)), moves) if len(moves) < 2000 else None
            if last is None:
                return NEVER
            for there in last.places():
                stock[there] = stock.get(there, 0) + last[there] * times
    if many > 20000:
        return NEVER
    rest = {place: times * whole for place, times in told_rest(ways, start, batch).items()}
    friends, together = sum(stock.values()), sum(stock[place] * worths[place] for place in stock)
    gain = sum(rest[place] * worths[place] for place in rest)
    while (together <= mean * friends or friends == 0) and many <= 20000:
        many += sum(times for _, times in made)
        friends, together = friends + whole, together + gain
    return many


class GreatestTest(Case):
    def assert_exact(self, ways, start, worths):
        """The batch and the price are what they are called, and have the same number: so it is exact."""
        number = greatest(ways, start, worths)
        self.assertTrue(is_fraction(number))
        places = reached(ways, start)
        batch = best_batch(ways, start, worths)
        self.assertIsInstance(batch, list)
        self.assertEqual([index for index, _ in batch], sorted({index for index, _ in batch}))
        for index, times in batch:
            self.assertTrue(is_fraction(times) and times[0] > 0 and set(ways[index][0]) <= set(places))
        rest = told_rest(ways, start, batch)
        self.assertTrue(all(times >= 0 for times in rest.values()))
        self.assert_same(sum(rest[place] * worths[place] for place in places), Fraction(*number))
        self.assert_same(rest_of(ways, start, batch), {place: pair(rest[place]) for place in places})
        price = best_price(ways, start, worths)
        self.assertEqual(sorted(price), places)
        self.assertTrue(all(is_fraction(price[place]) for place in places))
        self.assertTrue(all(Fraction(*price[place]) >= worths[place] for place in places))
        for ins, _, outs in ways.moves():
            if set(ins) <= set(places):
                self.assertLessEqual(sum(Fraction(*price[place]) for place in outs),
                                     sum(Fraction(*price[place]) for place in ins))
        self.assert_same(price[start], number)

    def test_document(self):
        ways = ways_of(simple_book())
        self.assert_same(share_at(ways, (0, 0), [(2, 0)]), (1, 1))
        self.assert_same(best_price(ways, (0, 0), {(0, 0): 0, (1, 0): 0, (2, 0): 1}),
                         {(0, 0): (1, 1), (1, 0): (1, 1), (2, 0): (1, 1)})

    def test_many_ways(self):
        chance = random.Random(31)
        for ways, start in many_ways(32, 1500):
            self.assert_exact(ways, start, some_worths(chance, ways))

    def test_a_rest_that_comes_in_again(self):
        # Seldom does a place that was emptied on the way to the best batch keep somebody in the end.
        places = [(0,), (1,), (2,), (3,), (4,)]
        ways = Ways(places, [(((3,),) * 2, "", ((4,),) * 2), (((1,), (0,), (2,), (2,)), "", ((2,), (3,), (4,), (2,))),
                             (((1,), (4,), (2,), (1,)), "", ((4,), (1,), (3,), (0,))),
                             (((4,),) * 2, "", ((2,), (1,)))])
        self.assert_exact(ways, (3,), {(0,): -5, (1,): -9, (2,): -7, (3,): 9, (4,): -6})

    def test_larger_ways(self):
        chance = random.Random(33)
        for ways, start in many_ways(34, 40, most_places=24, most_moves=120):
            self.assert_exact(ways, start, some_worths(chance, ways))

    def test_many_books(self):
        chance = random.Random(35)
        for _ in range(40):
            ways = ways_of(some_book(chance))
            self.assert_exact(ways, chance.choice(ways.places()), some_worths(chance, ways))

    def test_as_many_places_and_moves_as_may_be(self):
        chance = random.Random(36)
        places = [(number,) for number in range(24)]
        for sizes in ((1, 2, 4), (2,), (4,)):
            moves = []
            for _ in range(3000):
                size = chance.choice(sizes)
                moves.append((tuple(chance.choices(places, k=size)), "", tuple(chance.choices(places, k=size))))
            ways = Ways(places, moves)
            self.assert_exact(ways, (0,), some_worths(chance, ways))

    def test_no_lot_is_above(self):
        chance = random.Random(37)
        for ways, start in many_ways(38, 60, most_places=4, most_moves=6):
            worths = some_worths(chance, ways)
            number = Fraction(*greatest(ways, start, worths))
            for friends in range(1, 6):
                todo = [Lot.at(start, friends)]
                seen = {tuple(todo[0][place] for place in ways.places())}
                while todo:
                    lot = todo.pop()
                    self.assertLessEqual(Fraction(*lot.mean(worths)), number)
                    for move in ways.moves():
                        if lot.can(move):
                            key = tuple(lot.after(move)[place] for place in ways.places())
                            if key not in seen:
                                seen.add(key)
                                todo.append(lot.after(move))

    def test_known_numbers(self):
        worths = {A: 0, B: 3, C: 9, D: 500}
        ways = small_ways()
        # One of two comes to B from A, so all do; two at B bring one to C and one back.
        self.assert_same(greatest(ways, A, worths), (9, 1))
        self.assert_same(greatest(ways=ways, start=D, worths=worths), (500, 1))
        self.assert_same(greatest(ways, C, worths), (9, 1))
        half = Ways([A, B, C], [((A, A), "", (B, C))])
        self.assert_same(greatest(half, A, {A: 0, B: 5, C: 0}), (5, 2))
        self.assert_same(best_batch(half, A, {A: 0, B: 5, C: 0}), [(0, (1, 2))])
        self.assert_same(best_batch(ways=half, start=A, worths={A: 3, B: 5, C: 0}), [])
        quarter = Ways([A, B, C], [((A,) * 4, "", (B, C, C, C))])
        self.assert_same(greatest(quarter, A, {A: -999, B: 999, C: -999}), (-999, 2))
        self.assert_same(greatest(quarter, A, {A: -999, B: -999, C: -999}), (-999, 1))

    def test_nowhere_to_go(self):
        alone = Ways([A, B], [])
        locked = Ways([A, B], [((B,), "", (A,)), ((A, B), "", (B, B))])
        for ways in (alone, locked):
            self.assert_same(greatest(ways, A, {A: -7, B: 9}), (-7, 1))
            self.assert_same(best_batch(ways, A, {A: -7, B: 9}), [])
            self.assert_same(best_price(ways=ways, start=A, worths={A: -7, B: 9}), {A: (-7, 1)})
            self.assert_same(rest_of(ways, A, []), {A: (1, 1)})

    def test_worths_all_equal(self):
        for ways, start in many_ways(39, 40):
            for worth in (-999, 0, 999):
                self.assert_same(greatest(ways, start, {place: worth for place in ways.places()}), (worth, 1))

    def test_a_stranger_is_no_help(self):
        # The move needs somebody at B, whom nobody can bring there.
        ways = Ways([A, B, C], [((A, B), "", (C, B))])
        self.assert_same(greatest(ways, A, {A: 0, B: 0, C: 1}), (0, 1))
        more = ways + [((A,) * 4, "", (B, A, A, A))]
        self.assert_same(greatest(more, A, {A: 0, B: 0, C: 1}), (1, 1))


class RestTest(Case):
    def test_rest(self):
        ways = small_ways()
        self.assert_same(rest_of(ways, A, []), {A: (1, 1), B: (0, 1), C: (0, 1)})
        self.assert_same(rest_of(ways=ways, start=A, batch=[(0, (2, 3)), (1, (1, 4)), (2, (1, 6))]),
                         {A: (3, 4), B: (0, 1), C: (1, 4)})

    def test_no_batch(self):
        ways = small_ways()
        good = [(0, (2, 3)), (1, (1, 4))]
        self.assertEqual(rest_of(ways, A, good)[B], (1, 6))
        for odd in ODD + (tuple(good), good[::-1], good[:1] * 2, [(0, (1, 4))] * 2, [(0, (2, 3)), (1, (2, 3))],
                          [(0, (3, 2))], [(3, (1, 9))], [(2, (1, 9))], {0: (1, 2)}, 0):
            if odd != []:
                self.refuses(BadMove, "index", None, rest_of, ways, A, odd)
        for odd in ODD + ((0,), (0, (1, 2), 0), [0, (1, 2)], (False, (1, 2)), (-1, (1, 2)), (4, (1, 2)), (None, (1, 2)),
                          ("0", (1, 2)), (0, (0, 1)), (0, (-1, 2)), (0, (2, 4)), (0, [1, 2]), (0, 1), (0, (1, 0)),
                          (0, (True, 2)), (0, None), 0, (10 ** 30, (1, 2))):
            self.refuses(BadMove, "index", None, rest_of, ways, A, [odd])
            self.refuses(BadMove, "index", None, rest_of, ways, A, good + [odd])
        self.assert_same(rest_of(ways, D, [(3, (1, 1))]), {C: (1, 1), D: (0, 1)})
        self.refuses(BadMove, "index", None, rest_of, ways, D, [(3, (9, 8))])


class LiftTest(Case):
    def assert_lifts(self, ways, start, worths, mean):
        friends, moves = lift(ways, start, worths, pair(mean))
        self.assertIsInstance(moves, list)
        self.assertLessEqual(len(moves), 20000)
        self.assertTrue(set(moves) <= set(ways.moves()))
        last = last_lot(Lot.at(start, friends), moves)
        self.assertEqual(last.total(), friends)
        self.assertGreater(Fraction(*last.mean(worths)), mean)
        return len(moves)

    def test_many_ways(self):
        chance = random.Random(41)
        told = {True: 0, False: 0}
        for ways, start in many_ways(42, 250):
            worths = some_worths(chance, ways)
            number = Fraction(*greatest(ways, start, worths))
            for below in (Fraction(0), Fraction(-1, 10 ** 9), Fraction(-5)):
                self.assertIsNone(lift(ways, start, worths, pair(number - below)))
            for below in (Fraction(5), Fraction(1, 3), Fraction(1, 60)):
                try:
                    many = self.assert_lifts(ways, start, worths, number - below)
                    self.assertLessEqual(many, moves_by_the_document(ways, start, worths, number - below))
                    told[True] += 1
                except TooMany as error:
                    told[False] += 1
                    self.assertEqual(error.limit, 20000)
                    self.assertGreater(moves_by_the_document(ways, start, worths, number - below), 20000)
        self.assertGreater(told[True], 500)
        self.assertGreater(told[False], 2)

    def test_books(self):
        chance = random.Random(43)
        for _ in range(12):
            ways = ways_of(some_book(chance, most_high=4))
            start = chance.choice(ways.places())
            worths = some_worths(chance, ways)
            number = Fraction(*greatest(ways, start, worths))
            self.assertIsNone(lift(ways, start, worths, pair(number)))
            try:
                self.assert_lifts(ways, start, worths, number - Fraction(1, 2))
            except TooMany:
                self.assertGreater(moves_by_the_document(ways, start, worths, number - Fraction(1, 2)), 20000)

    def test_small(self):
        half = Ways([A, B, C], [((A, A), "", (B, C))])
        worths = {A: 0, B: 5, C: 0}
        self.assertIsNone(lift(half, A, worths, (5, 2)))
        self.assertIsNone(lift(half, A, worths, (3, 1)))
        self.assert_lifts(half, A, worths, Fraction(249, 100))
        self.assert_same(lift(ways=half, start=A, worths=worths, mean=(-1, 1)), (1, []))
        self.assert_same(lift(half, B, worths, (4, 1)), (1, []))
        self.assertIsNone(lift(half, B, worths, (5, 1)))

    def test_far_below_the_worths(self):
        ways = small_ways()
        worths = {A: -999, B: -998, C: -997, D: 0}
        self.assert_lifts(ways, A, worths, Fraction(-10 ** 30))
        self.assert_lifts(ways, A, worths, Fraction(-999) - Fraction(1, 10 ** 30))
        self.assert_lifts(ways, A, worths, Fraction(-999))
        self.assert_lifts(ways, A, worths, Fraction(-997) - Fraction(1, 100))
        self.assertIsNone(lift(ways, A, worths, (-997, 1)))

    def test_climbs_alone_may_do(self):
        ways = Ways([A, B, C], [((A,), "", (B,)), ((B, B), "", (C, B))])
        worths = {A: 0, B: 5, C: 6}
        self.assertEqual(self.assert_lifts(ways, A, worths, Fraction(1)), 2)
        self.assert_lifts(ways, A, worths, Fraction(5))

    def test_too_many(self):
        ways = small_ways()
        worths = {A: 0, B: 0, C: 1, D: 0}
        self.refuses(TooMany, "limit", 20000, lift, ways, A, worths, (10 ** 6 - 1, 10 ** 6))
        self.assert_lifts(ways, A, worths, Fraction(99, 100))
        # One friend goes to B and helps each other one to C: 1 of 2, 2 of 3, and so on.
        helped = Ways([A, B, C], [((A,), "", (B,)), ((A, B), "", (C, B))])
        friends, moves = lift(helped, A, worths, (19998, 19999))
        self.assertEqual((friends, len(moves)), (20000, 20000))
        self.assert_lifts(helped, A, worths, Fraction(19998, 19999))
        self.refuses(TooMany, "limit", 20000, lift, helped, A, worths, (19999, 20000))
        chain = [(number,) for number in range(12)]
        ways = Ways(chain, [((one,) * 4, "", (behind, one, one, one)) for one, behind in zip(chain, chain[1:])])
        worths = {place: place[0] for place in chain}
        self.refuses(TooMany, "limit", 20000, lift, ways, (0,), worths, (10, 1))
        self.assertEqual(moves_by_the_document(ways, (0,), worths, 10), NEVER)

    def test_refused(self):
        ways = Ways([A, B], [UP])
        for odd in ODD + (0, 1, (2, 4), (1, 0), (1, -2), [1, 2], (1, 2, 3), (1,), (True, 1), (1, True)):
            self.refuses(BadNumber, "number", odd, lift, ways, A, {A: 0, B: 1}, odd)
        self.refuses(BadWorths, "place", A, lift, ways, A, {}, None)
        self.refuses(UnknownPlace, "place", C, lift, ways, C, {}, None)


class SharesTest(Case):
    def test_shares(self):
        chance = random.Random(51)
        for ways, start in many_ways(52, 200):
            places = [place for place in ways.places() if chance.random() < 0.4]
            worths = {place: int(place in places) for place in ways.places()}
            number = share_at(ways, start, places)
            self.assert_same(number, greatest(ways, start, worths))
            self.assertTrue(0 <= Fraction(*number) <= 1)
            self.assert_same(share_at(ways, start, tuple(places[::-1] + places)), number)

    def test_edges(self):
        ways = small_ways()
        self.assert_same(share_at(ways, A, []), (0, 1))
        self.assert_same(share_at(ways=ways, start=A, places=[D]), (0, 1))
        self.assert_same(share_at(ways, A, [A]), (1, 1))
        self.assert_same(share_at(ways, A, ways.places()), (1, 1))
        half = Ways([A, B, C], [((A, A), "", (B, C))])
        self.assert_same(share_at(half, A, [B]), (1, 2))
        self.assert_same(share_at(half, A, [B, B, B]), (1, 2))
        self.assert_same(share_at(half, A, (C, B)), (1, 1))

    def test_refused(self):
        ways = Ways([(0,), (1, 0)], [])
        for odd in ODD + ((9,), (False,), [0], 0):
            self.refuses(UnknownPlace, "place", odd, share_at, ways, odd, [None])
            self.refuses(UnknownPlace, "place", odd, share_at, ways, (0,), [(0,), odd, (9,)])


class RefusedTest(Case):
    def test_unknown(self):
        ways = Ways([(0,), (1, 0)], [])
        for odd in ODD + ((9,), (False,), [0], 0):
            for call in (greatest, best_batch, best_price):
                self.refuses(UnknownPlace, "place", odd, call, ways, odd, None)
            self.refuses(UnknownPlace, "place", odd, rest_of, ways, odd, None)
            self.refuses(UnknownPlace, "place", odd, lift, ways, odd, None, None)

    def test_worths(self):
        ways = Ways([C, A, B, (1, 0)], [])
        good = {A: -999, B: 999, (1, 0): 0, C: 5, (7,): None, "more": 1000}
        calls = (greatest, best_batch, best_price, lambda *told: lift(*told, None))
        for call in calls:
            for odd in ODD + (0, [1], tuple(good)):
                if not isinstance(odd, dict):
                    self.refuses(BadWorths, "place", None, call, ways, A, odd)
            self.refuses(BadWorths, "place", A, call, ways, A, {})
            self.refuses(BadWorths, "place", (1, 0), call, ways, A, {A: 0, B: 0})
            self.refuses(BadWorths, "place", (1, 0), call, ways, A, {A: 0, B: 0, (True, 0): 0, C: 0})
            for odd in ODD + (-1000, 1000, 10 ** 30):
                self.refuses(BadWorths, "place", B, call, ways, A, {**good, B: odd, C: odd})
        self.assert_same(greatest(ways, A, good), (-999, 1))


class AgainTest(Case):
    def test_told_again(self):
        chance = random.Random(61)
        for ways, start in many_ways(62, 60):
            worths = some_worths(chance, ways)
            number = Fraction(*greatest(ways, start, worths))
            calls = [lambda: greatest(ways, start, worths), lambda: best_batch(ways, start, worths),
                     lambda: best_price(ways, start, worths), lambda: rest_of(ways, start, []),
                     lambda: lift(ways, start, worths, pair(number - 2000)), lambda: reached(ways, start)]
            for call in calls:
                first = call()
                shown = repr(first)
                for told in first if isinstance(first, tuple) else [first]:
                    if isinstance(told, (list, dict)):
                        told.clear()
                self.assertEqual(repr(call()), shown)

    def test_what_is_handed_in_stays(self):
        ways = some_ways(random.Random(63))
        start = ways.places()[0]
        worths = {place: 3 for place in ways.places()}
        worths["more"] = [1]
        places, batch = ways.places(), []
        before = repr((worths, places, batch))
        for call in (greatest, best_batch, best_price):
            call(ways, start, worths)
        lift(ways, start, worths, (1, 1))
        share_at(ways, start, places)
        rest_of(ways, start, batch)
        self.assertEqual(repr((worths, places, batch)), before)

    def test_changed_behind_the_call(self):
        ways = small_ways()
        worths = {A: 0, B: 3, C: 9, D: 500}
        first = greatest(ways, A, worths)
        worths[C] = 0
        self.assert_same(greatest(ways, A, worths), (3, 1))
        worths[C] = 9
        self.assert_same(greatest(ways, A, worths), first)


if __name__ == "__main__":
    unittest.main()
