"""Promises: reached places, climbs, closed lists, reaching refused."""

from itertools import combinations
import random
import unittest

from liftedladders.books import Book
from liftedladders.errors import TooMany, UnknownPlace
from liftedladders.lots import Lot, lots_behind
from liftedladders.reaching import climb, climb_moves, friends_of, is_climb, is_closed, reached
from liftedladders.ways import Ways, ways_of
from tests.support import Case, ODD, many_ways, simple_book, some_book

A, B, C, D = (0,), (1,), (2,), (3,)
UP = ((A, A), "up", (B, A))
FOUR = ((A, A, B, B), "four", (C, A, A, A))
BACK = ((B,), "back", (A,))
AWAY = ((D,), "away", (C,))


def small_ways():
    return Ways([A, B, C, D], [UP, FOUR, BACK, AWAY])


def told_needs(ways, start):
    """The fewest friends for each reached place, by going over all moves until nothing changes."""
    needs = {start: 1}
    changed = True
    while changed:
        changed = False
        for ins, _, outs in ways.moves():
            if all(place in needs for place in ins):
                for out in outs:
                    if sum(needs[place] for place in ins) < needs.get(out, 10 ** 40):
                        needs[out] = sum(needs[place] for place in ins)
                        changed = True
    return needs


def told_climb(ways, start, place, value):
    """Whether a list of tuples of places and indexes in range is a climb, written in another way."""
    for at, (told, index) in enumerate(value):
        ahead = [start] + [entry[0] for entry in value[:at]]
        if told not in ways.moves()[index][2] or set(ways.moves()[index][0]) - set(ahead):
            return False
    return (value[-1][0] if value else start) == place


def some_tuples(chance, ways, most):
    """A list of tuples that may be a climb: each index mostly with one of its outs."""
    tuples = []
    for _ in range(chance.randint(0, most)):
        index = chance.randrange(len(ways))
        tuples.append((chance.choice(ways[index][2] if chance.random() < 0.8 else ways.places()), index))
    return tuples


def some_climb(chance, ways, start, most):
    """A climb of any moves that its places let be made, with places more than once."""
    tuples = []
    for _ in range(chance.randint(0, most)):
        indexes = ways.within([start] + [place for place, _ in tuples])
        if indexes:
            index = chance.choice(indexes)
            tuples.append((chance.choice(ways[index][2]), index))
    return tuples


class ReachedTest(Case):
    def test_document(self):
        ways = ways_of(simple_book())
        self.assert_same([reached(ways, (0, 0)), is_climb(ways, (0, 0), (2, 0), [((1, 0), 0), ((2, 0), 3)])],
                         [[(0, 0), (1, 0), (2, 0)], True])
        self.assert_same(friends_of(ways, (0, 0), [((1, 0), 0), ((2, 0), 3)]), 3)

    def test_reached(self):
        ways = small_ways()
        self.assert_same(reached(ways, A), [A, B, C])
        self.assert_same(reached(ways, B), [A, B, C])
        self.assert_same(reached(ways=ways, start=C), [C])
        self.assert_same(reached(ways, D), [C, D])
        self.assert_same(reached(Ways([B, A], []), A), [A])

    def test_only_by_four(self):
        ways = Ways([A, B], [((A, A, A, A), "", (B, B, A, A)), ((B, B), "", (A, A))])
        self.assert_same(reached(ways, A), [A, B])
        self.assert_same(climb(ways, A, B), [(B, 0)])
        self.assert_same(friends_of(ways, A, [(B, 0)]), 4)

    def test_many_ways(self):
        for ways, start in many_ways(11, 400):
            self.assert_same(reached(ways, start), sorted(told_needs(ways, start)))

    def test_books(self):
        chance = random.Random(12)
        for _ in range(25):
            ways = ways_of(some_book(chance))
            start = chance.choice(ways.places())
            self.assert_same(reached(ways, start), sorted(told_needs(ways, start)))


class ClimbsTest(Case):
    def assert_best_climbs(self, ways, start):
        needs = told_needs(ways, start)
        for place in ways.places():
            way = climb(ways, start, place)
            self.assertEqual(way is None, place not in needs)
            if way is not None:
                self.assert_truth(is_climb(ways, start, place, way), True)
                self.assertEqual(friends_of(ways, start, way), needs[place])
                self.assertEqual(len({entry[0] for entry in way}), len(way))

    def test_told(self):
        ways = small_ways()
        self.assert_same(climb(ways, A, A), [])
        self.assert_same(climb(ways, A, B), [(B, 0)])
        self.assert_same(climb(ways=ways, start=A, place=C), [(B, 0), (C, 1)])
        self.assertIsNone(climb(ways, A, D))
        self.assert_same([friends_of(ways, A, way) for way in ([], [(B, 0)], [(B, 0), (C, 1)])], [1, 2, 6])
        self.assert_same(friends_of(ways=ways, start=A, climb=((B, 0), (C, 1))), 6)

    def test_fewest_friends(self):
        for ways, start in many_ways(13, 400):
            self.assert_best_climbs(ways, start)

    def test_fewest_friends_not_fewest_moves(self):
        ways = Ways([A, B, C, D], [((A,) * 4, "", (D,) * 4), ((A,), "", (B,)), ((B,), "", (C,)), ((C,), "", (D,))])
        self.assert_same(climb(ways, A, D), [(B, 1), (C, 2), (D, 3)])
        self.assert_same(friends_of(ways, A, [(B, 1), (C, 2), (D, 0)]), 4)

    def test_books(self):
        chance = random.Random(14)
        for _ in range(15):
            ways = ways_of(some_book(chance))
            start = chance.choice(ways.places())
            self.assert_best_climbs(ways, start)

    def test_the_last_tuple_ahead_counts(self):
        ways = Ways([A, B, C], [((A,) * 4, "", (B,) * 4), ((A,), "", (B,)), ((B, B), "", (C, A)), ((B,), "", (A,))])
        self.assert_same(friends_of(ways, A, [(B, 0), (C, 2), (B, 1)]), 1)
        self.assert_same(friends_of(ways, A, [(B, 0), (B, 1), (C, 2)]), 2)
        self.assert_same(friends_of(ways, A, [(B, 1), (B, 0), (C, 2)]), 8)
        self.assert_same(friends_of(ways, A, [(B, 0), (A, 3), (B, 1)]), 1)
        self.assert_same(friends_of(ways, A, [(B, 0), (A, 3)]), 4)

    def test_is_climb(self):
        ways = small_ways()
        good = [(B, 0), (C, 1)]
        for start, place, value in ((A, C, good), (A, A, []), (A, A, [(B, 0), (A, 2)]), (A, A, [(A, 0)]),
                                    (D, C, [(C, 3)]), (A, C, [(B, 0), (B, 0), (C, 1)]),
                                    (A, C, [(B, 0), (A, 0), (C, 1)])):
            self.assert_truth(is_climb(ways, start, place, value), True)
        for start, place, value in ((A, B, good), (A, B, []), (A, C, good[::-1]), (A, C, good[1:]), (B, D, []),
                                    (A, C, [(B, 1), (C, 1)]), (A, C, [(B, 2), (C, 1)]), (A, C, [(C, 3)]), (D, C, good),
                                    (A, A, good), (A, A, [(B, 0)]), (A, C, [(C, 0)]), (A, D, [(D, 0)]),
                                    (A, C, [(B, 0), (B, 1)])):
            self.assert_truth(is_climb(ways, start, place, value), False)
        self.assert_truth(is_climb(ways=ways, start=A, place=C, value=good), True)

    def test_is_climb_any_value(self):
        ways = Ways([A, B, C], [UP, FOUR, BACK])
        for odd in ODD + (tuple([(B, 0)]), {B: 0}, {(B, 0)}, "", 0):
            if odd != []:
                self.assert_truth(is_climb(ways, A, B, odd), False)
                self.assert_truth(is_climb(ways, A, A, odd), False)
        for odd in ODD + ((B,), (B, 0, 0), [B, 0], (B, False), (B, -1), (B, -3), (B, 3), (B, 10 ** 30), (B, "0"),
                          (B, None), (B, (0,)), ([1], 0), ((True,), 0), ((1, 0), 0), (1, 0), (None, 0), (D, 0), 0, B):
            self.assert_truth(is_climb(ways, A, B, [odd]), False)
            self.assert_truth(is_climb(ways, A, B, [(B, 0), odd]), False)
            self.assert_truth(is_climb(ways, A, B, [odd, (B, 0)]), False)

    def test_is_climb_whoever_wrote_it(self):
        chance = random.Random(15)
        found = {True: 0, False: 0}
        for ways, start in many_ways(16, 300):
            for _ in range(20 if len(ways) else 0):
                place = chance.choice(ways.places())
                value = some_tuples(chance, ways, 4)
                if chance.random() < 0.5:
                    value = some_climb(chance, ways, start, 6)
                    if value and chance.random() < 0.3:
                        value.pop(chance.randrange(len(value)))
                    place = value[-1][0] if value else start
                holds = told_climb(ways, start, place, value)
                found[holds] += 1
                self.assert_truth(is_climb(ways, start, place, value), holds)
        self.assertGreater(min(found.values()), 500)


class ClimbMovesTest(Case):
    def test_told(self):
        ways = small_ways()
        self.assert_same(climb_moves(ways, A, []), [])
        self.assert_same(climb_moves(ways, A, [(B, 0)]), [UP])
        self.assert_same(climb_moves(ways=ways, start=A, climb=[(B, 0), (C, 1)]), [UP, UP, FOUR])
        self.assert_same(climb_moves(ways, A, ((B, 0), (A, 2), (C, 1))), [UP, UP, FOUR])

    def test_can_be_made(self):
        chance = random.Random(17)
        many = 0
        for ways, start in many_ways(18, 300):
            for _ in range(4):
                value = some_climb(chance, ways, start, 8)
                place = value[-1][0] if value else start
                friends = friends_of(ways, start, value)
                if friends < 3000:
                    moves = climb_moves(ways, start, value)
                    *_, last = lots_behind(Lot.at(start, friends), moves)
                    self.assertIn(place, last)
                    self.assertEqual(last.total(), friends)
                    many += len(moves) > 3
        self.assertGreater(many, 50)

    def test_best_climbs_can_be_made(self):
        for ways, start in many_ways(19, 100):
            for place in reached(ways, start):
                way = climb(ways, start, place)
                friends = friends_of(ways, start, way)
                if friends < 3000:
                    *_, last = lots_behind(Lot.at(start, friends), climb_moves(ways, start, way))
                    self.assertIn(place, last)

    def test_each_just_as_often_as_needed(self):
        places = [(number,) for number in range(5)]
        ways = Ways(places, [((place, place), "", (behind, place)) for place, behind in zip(places, places[1:])])
        way = climb(ways, (0,), (4,))
        self.assert_same(way, [((1,), 0), ((2,), 1), ((3,), 2), ((4,), 3)])
        self.assert_same(friends_of(ways, (0,), way), 16)
        moves = climb_moves(ways, (0,), way)
        self.assert_same([moves.count(move) for move in ways.moves()], [8, 4, 2, 1])

    def test_too_many(self):
        ways = Ways([A, B, C], [((A,), "", (B,)), ((B,), "", (C,)), ((C,), "", (B,))])
        row = [(B, 0)] + [(C, 1), (B, 2)] * 10000
        self.assert_same(len(climb_moves(ways, A, row[:20000])), 20000)
        self.refuses(TooMany, "limit", 20000, climb_moves, ways, A, row)
        self.assertEqual(friends_of(ways, A, row), 1)
        self.assert_truth(is_climb(ways, A, B, row), True)

    def test_too_many_by_friends(self):
        places = [(number,) for number in range(24)]
        ways = Ways(places, [((place,) * 4, "", (behind,) * 4) for place, behind in zip(places, places[1:])])
        for number in range(24):
            way = climb(ways, (0,), (number,))
            self.assertEqual(friends_of(ways, (0,), way), 4 ** number)
            many = (4 ** number - 1) // 3
            if many <= 20000:
                self.assertEqual(len(climb_moves(ways, (0,), way)), many)
            else:
                self.refuses(TooMany, "limit", 20000, climb_moves, ways, (0,), way)

    def test_just_at_the_limit_by_friends(self):
        # 1 + 2 + 4 + .. + 8192 moves of two are 16383, and the rest are steps of one alone.
        places = [(number,) for number in range(16)]
        twos = [((place,) * 2, "", (behind,) * 2) for place, behind in zip(places[:14], places[1:])]
        ways = Ways(places, twos + [(((14,),), "", ((15,),)), (((15,),), "", ((14,),))])
        way = [((number + 1,), number) for number in range(14)] + [((15,), 14), ((14,), 15)] * 1809
        self.assertEqual(friends_of(ways, (0,), way), 2 ** 14)
        self.assertEqual(len(climb_moves(ways, (0,), way[:-1])), 20000)
        self.refuses(TooMany, "limit", 20000, climb_moves, ways, (0,), way)

    def test_tuples_of_the_start_are_needed_by_nobody(self):
        ways = Ways([A, B], [((A,), "", (B,)), ((B,), "", (A,))])
        row = [(B, 0), (A, 1)] * 20000
        self.assert_same(climb_moves(ways, A, row), [ways[0], ways[1]])
        self.assert_same(climb_moves(ways, A, row[:-1]), [ways[0]])


class LongClimbsTest(Case):
    def test_doublings(self):
        doublings = [(((at,), (at,)), "", ((at + 1,), (at,))) for at in range(15)]
        chain = Ways([(at,) for at in range(16)], doublings)
        rows = [((at + 1,), at) for at in range(15)]
        moves = climb_moves(chain, (0,), rows[:-1])
        self.assertEqual(len(moves), 16383)
        self.assertEqual(moves, [move for at, move in enumerate(doublings[:-1]) for _ in range(2 ** (13 - at))])
        self.refuses(TooMany, "limit", 20000, climb_moves, chain, (0,), rows)
        self.assert_same([friends_of(chain, (0,), rows[:many]) for many in range(16)], [2 ** at for at in range(16)])

    def test_to_and_fro(self):
        moves = [((A,), "", (B,)), ((B,), "", (C,)), ((C,), "", (B,))]
        ways = Ways([A, B, C], moves)
        rows = [(B, 0)] + [(C, 1), (B, 2)] * 750
        self.assertEqual(len(rows), 1501)
        self.assert_same(climb_moves(ways, A, rows), [moves[index] for _, index in rows])
        self.assert_same(friends_of(ways, A, rows), 1)
        self.assert_truth(is_climb(ways, A, B, rows), True)
        self.assert_truth(is_climb(ways, A, C, rows), False)
        self.assert_truth(is_climb(ways, A, C, rows[:-1]), True)
        self.assert_truth(is_climb(ways, A, C, tuple(rows[:-1])), False)
        for odd in ODD + ((C, True), (B, False), (C, 3), (C, -1), (C, -2), (C, "1"), (C, None), [C, 1], ([2], 1),
                          (C, 1, 0), (C,), ((9,), 1), ((2, 0), 1), ((True,), 2), (2, 1), (A, 1), (B, 1)):
            for last in (B, C):
                self.assert_truth(is_climb(ways, A, last, rows + [odd]), False)
        self.assert_truth(is_climb(ways, A, C, rows + [(C, 1)]), True)
        self.assert_truth(is_climb(ways, A, B, rows + [(B, 0)]), True)

    def test_what_cannot_be_made_behind_what_can(self):
        ways = Ways([A, B, C, D], [UP, FOUR, BACK, AWAY])
        rows = [(B, 0), (A, 2)] * 500
        self.assert_truth(is_climb(ways, A, A, rows), True)
        self.assert_truth(is_climb(ways, A, C, rows + [(C, 1)]), True)
        self.assert_truth(is_climb(ways, A, C, rows + [(C, 3)]), False)
        self.assert_truth(is_climb(ways, A, C, [(C, 1)] + rows + [(C, 1)]), False)


class ClosedTest(Case):
    def test_is_closed(self):
        ways = small_ways()
        for start, place, value in ((A, D, [A, B, C]), (C, A, [C]), (C, D, [C]), (D, A, [C, D]), (B, D, [A, B, C]),
                                    (C, B, [C, D])):
            self.assert_truth(is_closed(ways, start, place, value), True)
        for start, place, value in ((A, C, [A, B]), (A, D, [A, B, C, D]), (A, D, [B, A, C]), (A, D, [A, A, B, C]),
                                    (A, D, []), (C, A, [C, D, C]), (D, A, [C]), (A, B, [A]), (A, A, [A, B, C]),
                                    (C, C, [C]), (D, B, [D]), (C, B, [D, C])):
            self.assert_truth(is_closed(ways, start, place, value), False)
        self.assert_truth(is_closed(ways=ways, start=A, place=D, value=[A, B, C]), True)

    def test_any_value(self):
        ways = Ways([A, B, C, (0, 0)], [UP])
        for odd in ODD + ((A, B), {A: 1, B: 1}, {A, B}, ((0,), (1,)), 0):
            self.assert_truth(is_closed(ways, A, C, odd), False)
        self.assert_truth(is_closed(ways, A, C, [A, B]), True)
        for odd in ODD + ((9,), [1], (1.5,), (False, 0), (True,), 1, None):
            self.assert_truth(is_closed(ways, A, C, [A, odd, B]), False)
            self.assert_truth(is_closed(ways, A, C, [A, B, odd]), False)
            self.assert_truth(is_closed(ways, A, C, [odd, A, B]), False)
        self.assert_truth(is_closed(ways, A, C, [A, (True,)]), False)

    def test_all_sets(self):
        for ways, start in many_ways(20, 60, most_places=5):
            places = ways.places()
            for size in range(len(places) + 1):
                for value in combinations(places, size):
                    closed = all(set(move[2]) <= set(value) for move in ways.moves() if set(move[0]) <= set(value))
                    for place in places:
                        holds = closed and start in value and place not in value
                        self.assert_truth(is_closed(ways, start, place, list(value)), holds)
                        self.assert_truth(is_closed(ways, start, place, value), False)

    def test_reached_is_closed(self):
        chance = random.Random(21)
        for _ in range(15):
            ways = ways_of(some_book(chance))
            start = chance.choice(ways.places())
            for place in ways.places():
                shown = is_closed(ways, start, place, reached(ways, start))
                self.assert_truth(shown, climb(ways, start, place) is None)


class RefusedTest(Case):
    def test_unknown(self):
        ways = Ways([(0,), (1,), (1, 0)], [])
        for odd in ODD + ((2,), (False,), (1, False), [0], 0, (0, 0)):
            self.refuses(UnknownPlace, "place", odd, reached, ways, odd)
            self.refuses(UnknownPlace, "place", odd, friends_of, ways, odd, [])
            self.refuses(UnknownPlace, "place", odd, climb_moves, ways, odd, [])
            for call, told in ((climb, ()), (is_climb, ([],)), (is_closed, ([A],))):
                self.refuses(UnknownPlace, "place", odd, call, ways, odd, "x", *told)
                self.refuses(UnknownPlace, "place", odd, call, ways, A, odd, *told)


class AgainTest(Case):
    def test_told_again(self):
        ways = ways_of(Book(0, 5, [(0, (2, -1), (0, 0), (-1, 2)), (3, (1, -1), (-1, 1), (-2, 2))]))
        start = (2, 0)
        calls = (lambda: reached(ways, start), lambda: climb(ways, start, (5, 0)),
                 lambda: climb_moves(ways, start, climb(ways, start, (5, 0))))
        for call in calls:
            first = call()
            kept = list(first)
            first.clear()
            self.assert_same(call(), kept)

    def test_what_is_handed_in_stays(self):
        ways = small_ways()
        way, closed = [(B, 0), (C, 1)], [A, B, C]
        friends_of(ways, A, way)
        climb_moves(ways, A, way)
        is_climb(ways, A, C, way)
        is_closed(ways, A, D, closed)
        self.assert_same((way, closed), ([(B, 0), (C, 1)], [A, B, C]))


if __name__ == "__main__":
    unittest.main()
