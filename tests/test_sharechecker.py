"""Promises: batches and prices are judged, whoever wrote them; what shares tells is taken; its errors."""

from fractions import Fraction
import random
import unittest

from liftedladders.books import Book
from liftedladders.errors import BadWorths, UnknownPlace
from liftedladders.numbers import is_fraction
from liftedladders.reaching import reached
from liftedladders.sharechecker import lets_batch, lets_price
from liftedladders.shares import best_batch, best_price, greatest, rest_of
from liftedladders.ways import Ways, ways_of
from tests.support import Case, EqualToAll, ODD, many_ways, simple_book, some_book

A, B, C, D = (0,), (1,), (2,), (3,)
UP = ((A, A), "up", (B, A))
FOUR = ((A, A, B, B), "four", (C, A, A, A))
BACK = ((B,), "back", (A,))
AWAY = ((D,), "away", (C,))
LOW, HIGH = (-10 ** 6, 1), (10 ** 6, 1)
NONES = ([EqualToAll()], "x", 0, -1)


def small_ways():
    return Ways([A, B, C, D], [UP, FOUR, BACK, AWAY])


def some_worths(chance, ways):
    low, high = chance.choice([(-999, 999), (-2, 2), (0, 1), (3, 3)])
    return {place: chance.randint(low, high) for place in ways.places()}


def pair(value):
    return (value.numerator, value.denominator)


def next_above(mean):
    return pair(Fraction(*mean) + Fraction(1, 10 ** 9))


def next_below(mean):
    return pair(Fraction(*mean) - Fraction(1, 10 ** 9))


def told_batch_mean(ways, start, worths, value):
    """The mean of a list of tuples of integers and Fractions, by the definition; None if it is no batch."""
    there = set(reached(ways, start))
    indexes = [index for index, _ in value]
    if indexes != sorted(set(indexes)) or not all(0 <= index < len(ways) for index in indexes):
        return None
    if not all(times > 0 and set(ways[index][0]) <= there for index, times in value):
        return None
    rest = {place: Fraction(place == start) for place in there}
    for index, times in value:
        for place in ways[index][0]:
            rest[place] -= times
        for place in ways[index][2]:
            rest[place] += times
    if any(number < 0 for number in rest.values()):
        return None
    return sum(rest[place] * worths[place] for place in there)


def is_told_price(ways, start, worths, value):
    """Whether a dict from places to Fractions is a price, by the definition."""
    there = set(reached(ways, start))
    if set(value) != there or any(value[place] < worths[place] for place in there):
        return False
    for ins, _, outs in ways.moves():
        if set(ins) <= there and sum(value[place] for place in outs) > sum(value[place] for place in ins):
            return False
    return True


class BatchTest(Case):
    worths = {A: 0, B: 3, C: 12, D: 99}

    def lets(self, mean, value):
        return lets_batch(small_ways(), A, self.worths, mean, value)

    def test_told(self):
        # One half of the first move leaves 1/2 at A and 1/2 at B.
        half = [(0, (1, 2))]
        self.assert_truth(self.lets((3, 2), half), True)
        self.assert_truth(self.lets((1, 1), half), True)
        self.assert_truth(self.lets((151, 100), half), False)
        self.assert_truth(self.lets((0, 1), []), True)
        self.assert_truth(self.lets((1, 1000), []), False)
        self.assert_truth(self.lets(LOW, [(0, (1, 2)), (2, (1, 2))]), True)
        self.assert_truth(self.lets(LOW, [(0, (1, 2)), (2, (501, 1000))]), False)
        self.assert_truth(self.lets(LOW, [(0, (501, 1000)), (2, (1, 501))]), True)
        # Each full move takes one from A: more than one is not there.
        self.assert_truth(self.lets(LOW, [(0, (1, 1))]), True)
        self.assert_truth(self.lets(LOW, [(0, (1001, 1000))]), False)
        self.assert_truth(self.lets((24, 7), [(0, (4, 7)), (1, (2, 7))]), True)
        self.assert_truth(self.lets((25, 7), [(0, (4, 7)), (1, (2, 7))]), False)
        self.assert_truth(self.lets((6, 1), [(0, (1, 1)), (1, (1, 2))]), True)
        self.assert_truth(self.lets((601, 100), [(0, (1, 1)), (1, (1, 2))]), False)
        self.assert_truth(self.lets(LOW, [(1, (1, 2))]), False)

    def test_named(self):
        self.assert_truth(lets_batch(value=[], mean=(0, 1), worths=self.worths, start=A, ways=small_ways()), True)

    def test_a_tuple_is_no_batch(self):
        self.assert_truth(self.lets(LOW, [(0, (1, 2))]), True)
        for value in (((0, (1, 2)),), {0: (1, 2)}, ([0, (1, 2)],), [[0, (1, 2)]], [(0, [1, 2])], (), {}, None, ""):
            self.assert_truth(self.lets(LOW, value), False)

    def test_any_value(self):
        for odd in ODD + NONES:
            if odd != []:
                self.assert_truth(self.lets(LOW, odd), False)
                self.assert_truth(self.lets(LOW, [odd]), False)
            self.assert_truth(self.lets(LOW, [(0, odd)]), False)
            self.assert_truth(self.lets(LOW, [(0, (1, 4)), (2, odd)]), False)
            self.assert_truth(self.lets(LOW, [(odd, (1, 4))]), odd == 0 and odd is not False)
            self.assert_truth(self.lets(LOW, [(0, (odd, 4))]), False)
            self.assert_truth(self.lets(LOW, [(0, (1, odd))]), False)

    def test_entries(self):
        for entry in ((0, (2, 4)), (0, (0, 1)), (0, (-1, 4)), (0, (1, -4)), (0, (1, 0)), (0, (1, 4, 1)), (0, (1,)),
                      (False, (1, 4)), (0, (True, 4)), (0, (1, True)), (4, (1, 4)), (-4, (1, 4)), (3, (1, 4)), (0, 1),
                      (0,), (0, (1, 4), 0)):
            self.assert_truth(self.lets(LOW, [entry]), False)
        # The move from D is of a place that is not reached, D stays there.
        self.assert_truth(lets_batch(small_ways(), D, self.worths, LOW, [(3, (1, 4))]), True)

    def test_order(self):
        good = [(0, (1, 2)), (1, (1, 8)), (2, (1, 8))]
        self.assert_truth(self.lets(LOW, good), True)
        self.assert_truth(self.lets(LOW, good[::-1]), False)
        self.assert_truth(self.lets(LOW, [good[1], good[0], good[2]]), False)
        self.assert_truth(self.lets(LOW, [(0, (1, 4)), (0, (1, 4))]), False)

    def test_what_is_told_is_taken(self):
        chance = random.Random(31)
        for ways, start in many_ways(32, 150):
            worths = some_worths(chance, ways)
            mean = greatest(ways, start, worths)
            value = best_batch(ways, start, worths)
            self.assert_truth(lets_batch(ways, start, worths, mean, value), True)
            self.assert_truth(lets_batch(ways, start, worths, next_below(mean), value), True)
            self.assert_truth(lets_batch(ways, start, worths, next_above(mean), value), False)
            self.assert_truth(lets_batch(ways, start, worths, mean, tuple(value)), False)

    def test_what_is_told_of_books_is_taken(self):
        chance = random.Random(33)
        for _ in range(12):
            ways = ways_of(some_book(chance, 12))
            start = chance.choice(ways.places())
            worths = {place: place[0] for place in ways.places()}
            mean = greatest(ways, start, worths)
            self.assertTrue(lets_batch(ways, start, worths, mean, best_batch(ways, start, worths)))
            self.assertTrue(lets_price(ways, start, worths, mean, best_price(ways, start, worths)))
            self.assertFalse(lets_batch(ways, start, worths, next_above(mean), best_batch(ways, start, worths)))
            self.assertFalse(lets_price(ways, start, worths, next_below(mean), best_price(ways, start, worths)))

    def test_whoever_wrote_it(self):
        chance = random.Random(34)
        found = {True: 0, False: 0, None: 0}
        for ways, start in many_ways(35, 500, most_places=4, most_moves=5):
            worths = some_worths(chance, ways)
            for _ in range(4):
                row = [index for index in range(len(ways)) if chance.random() < 0.5]
                if chance.random() < 0.05:
                    chance.shuffle(row)
                told = [(index, Fraction(chance.randint(1, 3), chance.randint(1, 8))) for index in row]
                value = [(index, pair(times)) for index, times in told]
                mean = told_batch_mean(ways, start, worths, told)
                asked = Fraction(chance.randint(-999, 999), chance.randint(1, 9))
                holds = mean is not None and mean >= asked
                found[None if mean is None else holds] += 1
                self.assert_truth(lets_batch(ways, start, worths, pair(asked), value), holds)
                if mean is not None:
                    self.assert_truth(lets_batch(ways, start, worths, pair(mean), value), True)
                    self.assert_truth(lets_batch(ways, start, worths, next_above(pair(mean)), value), False)
                    self.assertEqual(sum(Fraction(*rest_of(ways, start, value)[place]) * worths[place]
                                         for place in reached(ways, start)), mean)
                else:
                    self.assert_truth(lets_batch(ways, start, worths, LOW, value), False)
        self.assertGreater(min(found.values()), 100)


class PriceTest(Case):
    worths = {A: 0, B: 1, C: 5, D: 9}
    good = {A: (5, 1), B: (5, 1), C: (5, 1)}

    def lets(self, mean, value, start=A):
        return lets_price(small_ways(), start, self.worths, mean, value)

    def test_told(self):
        self.assert_truth(self.lets((5, 1), self.good), True)
        self.assert_truth(self.lets(HIGH, self.good), True)
        self.assert_truth(self.lets((4999, 1000), self.good), False)
        self.assert_truth(self.lets(HIGH, {A: (6, 1), B: (6, 1), C: (11, 2)}), True)
        # A move would raise the prices: B from two A's, C from two of each, A from B.
        self.assert_truth(self.lets(HIGH, {A: (5, 1), B: (6, 1), C: (5, 1)}), False)
        self.assert_truth(self.lets(HIGH, {A: (5, 1), B: (4, 1), C: (5, 1)}), False)
        self.assert_truth(self.lets(HIGH, {A: (5, 1), B: (5, 1), C: (6, 1)}), False)
        # Below a worth.
        self.assert_truth(self.lets(HIGH, {A: (5, 1), B: (5, 1), C: (4, 1)}), False)
        self.assert_truth(self.lets(HIGH, {A: (5, 1), B: (5, 1), C: (4999, 1000)}), False)
        # Moves of places that are not reached do not count, and the price at the start alone is asked for.
        self.assert_truth(self.lets((9, 1), {D: (9, 1), C: (5, 1)}, D), True)
        self.assert_truth(self.lets((9, 1), {D: (9, 1), C: (10, 1)}, D), False)
        self.assert_truth(self.lets((5, 1), {C: (5, 1)}, C), True)

    def test_named(self):
        told = lets_price(value=self.good, mean=(5, 1), worths=self.worths, start=A, ways=small_ways())
        self.assert_truth(told, True)

    def test_just_the_reached_places(self):
        for place in self.good:
            self.assert_truth(self.lets(HIGH, {key: self.good[key] for key in self.good if key != place}), False)
            swapped = {key: self.good[key] for key in self.good if key != place}
            self.assert_truth(self.lets(HIGH, {**swapped, D: (9, 1)}), False)
        self.assert_truth(self.lets(HIGH, {**self.good, D: (9, 1)}), False)
        self.assert_truth(self.lets(HIGH, {**self.good, "x": (9, 1)}), False)
        self.assert_truth(self.lets(HIGH, {}), False)
        self.assert_truth(self.lets(HIGH, {place: self.good[place] for place in reversed(list(self.good))}), True)

    def test_keys_are_integers(self):
        ways = ways_of(simple_book())
        worths = {(0, 0): 0, (1, 0): 0, (2, 0): 1}
        good = {(0, 0): (1, 1), (1, 0): (1, 1), (2, 0): (1, 1)}
        self.assert_truth(lets_price(ways, (0, 0), worths, (1, 1), good), True)
        for odd, place in (((True, 0), (1, 0)), ((1, False), (1, 0)), ((False, 0), (0, 0)), ((0, False), (0, 0)),
                           ((2, False), (2, 0))):
            bad = {key if key != place else odd: good[key] for key in good}
            self.assertEqual(bad, good)
            self.assert_truth(lets_price(ways, (0, 0), worths, (1, 1), bad), False)

    def test_any_value(self):
        for odd in ODD + NONES + ([self.good], (self.good,), list(self.good.items())):
            self.assert_truth(self.lets(HIGH, odd), False)
            for place in self.good:
                self.assert_truth(self.lets(HIGH, {**self.good, place: odd}), False)
        for odd in ((10, 2), (5, 0), (-5, -1), (True, 1), (5, True), (5,), (5, 1, 1), [5, 1], 5, "51", None):
            self.assert_truth(self.lets(HIGH, {**self.good, C: odd}), False)
        for odd in (None, 0, "", (), (2,), b"", 2):
            bad = {key: self.good[key] for key in self.good if key != C}
            self.assert_truth(self.lets(HIGH, {**bad, odd: (5, 1)}), odd == (2,))

    def test_what_is_told_is_taken(self):
        chance = random.Random(36)
        for ways, start in many_ways(37, 150):
            worths = some_worths(chance, ways)
            mean = greatest(ways, start, worths)
            value = best_price(ways, start, worths)
            self.assertTrue(all(is_fraction(price) for price in value.values()))
            self.assert_truth(lets_price(ways, start, worths, mean, value), True)
            self.assert_truth(lets_price(ways, start, worths, next_above(mean), value), True)
            self.assert_truth(lets_price(ways, start, worths, next_below(mean), value), False)

    def test_whoever_wrote_it(self):
        chance = random.Random(38)
        found = {True: 0, False: 0}
        for ways, start in many_ways(39, 400, most_places=4, most_moves=5):
            worths = some_worths(chance, ways)
            for _ in range(4):
                told = {place: Fraction(*price) for place, price in best_price(ways, start, worths).items()}
                for place in list(told):
                    if chance.random() < 0.4:
                        told[place] += chance.choice([0, 1, Fraction(1, 7), -Fraction(1, 7), 40])
                if chance.random() < 0.1:
                    told.pop(chance.choice(list(told)))
                if chance.random() < 0.1:
                    told[chance.choice(ways.places())] = Fraction(999)
                holds = is_told_price(ways, start, worths, told)
                found[holds] += 1
                value = {place: pair(told[place]) for place in told}
                self.assert_truth(lets_price(ways, start, worths, HIGH, value), holds)
                if holds:
                    self.assert_truth(lets_price(ways, start, worths, value[start], value), True)
                    self.assert_truth(lets_price(ways, start, worths, next_below(value[start]), value), False)
                    self.assertFalse(told[start] < Fraction(*greatest(ways, start, worths)))
        self.assertGreater(min(found.values()), 300)


class RefusedTest(Case):
    def test_unknown_start_ahead(self):
        for call in (lets_batch, lets_price):
            for odd in ODD + ((9,), (False,), [0], 0):
                for worths in (None, {}, {A: 0}):
                    self.refuses(UnknownPlace, "place", odd, call, small_ways(), odd, worths, (0, 1), None)

    def test_worths(self):
        good = {A: 0, B: 1, C: 5, D: 9}
        for call in (lets_batch, lets_price):
            for odd in (None, [], (), "x", 5, [(A, 0)], Book, True):
                self.refuses(BadWorths, "place", None, call, small_ways(), A, odd, (0, 1), None)
            self.refuses(BadWorths, "place", A, call, small_ways(), A, {}, (0, 1), [])
            for place in good:
                for odd in (None, 1000, -1000, True, False, "1", (1, 1), 10 ** 40):
                    worths = {**good, place: odd}
                    self.refuses(BadWorths, "place", place, call, small_ways(), A, worths, (0, 1), [])
                lacks = {key: good[key] for key in good if key != place}
                self.refuses(BadWorths, "place", place, call, small_ways(), A, {**lacks, (7,): None}, (0, 1), [])
            self.refuses(BadWorths, "place", B, call, small_ways(), A, {D: None, C: None, A: 0}, (0, 1), [])
            call(small_ways(), A, {**good, (7,): None, "x": "y"}, (0, 1), [])

    def test_what_is_handed_in_stays(self):
        worths, batch, price = {A: 0, B: 1, C: 5, D: 9}, [(0, (1, 2))], {A: (5, 1), B: (5, 1), C: (5, 1)}
        self.assertTrue(lets_batch(small_ways(), A, worths, (0, 1), batch))
        self.assertTrue(lets_price(small_ways(), A, worths, (5, 1), price))
        self.assert_same((worths, batch, price), ({A: 0, B: 1, C: 5, D: 9}, [(0, (1, 2))],
                                                  {A: (5, 1), B: (5, 1), C: (5, 1)}))


if __name__ == "__main__":
    unittest.main()
