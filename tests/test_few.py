"""Promises: goals and hands, what a hand can come to, the fewest moves; their errors in order."""

import random
import unittest

from liftedladders.books import Book
from liftedladders.errors import BadGoal, BadHand, BadMove, BadWorths, UnknownPlace
from liftedladders.few import Goal, best_of, fewest, hand_behind, hand_of, hands_behind, is_hand
from liftedladders.ways import Ways, ways_of
from tests.support import Case, EqualToAll, ODD, many_ways, simple_book, some_book

A, B, C, D = (0,), (1,), (2,), (3,)
UP = ((A, A), "up", (B, A))
FOUR = ((A, A, B, B), "four", (C, A, A, A))
BACK = ((B,), "back", (A,))
AWAY = ((D,), "away", (C,))
WORTHS = {A: 0, B: 2, C: -3, D: 7}
KINDS = {"best": max, "sum": sum, "all": min}


def small_ways():
    return Ways([A, B, C, D], [UP, FOUR, BACK, AWAY])


def told_behind(hand, move):
    """The hand behind a move, or None, by taking one in after the other away."""
    left = list(hand)
    for place in move[0]:
        if left.count(place) == 0:
            return None
        left.pop(left.index(place))
    return tuple(sorted(left + list(move[2])))


def told_hands(ways, hand):
    """The hands behind a hand, by rows of hands with one more move each, and the fewest moves to each."""
    needs = {hand: 0}
    row = [hand]
    while row:
        later = []
        for one in row:
            for move in ways.moves():
                behind = told_behind(one, move)
                if behind is not None and behind not in needs:
                    needs[behind] = needs[one] + 1
                    later.append(behind)
        row = later
    return needs


def some_hand(chance, ways):
    return tuple(sorted(chance.choice(ways.places()) for _ in range(chance.randint(1, 4))))


def some_goal(chance, ways):
    most = chance.choice([2, 9, 999])
    worths = {place: chance.randint(-most, most) for place in ways.places()}
    number = chance.randint(-most, 2 * most)
    return Goal(worths, chance.choice(["best", "sum", "all"]), number), worths


class GoalTest(Case):
    def test_told(self):
        for kind, number, hand, holds in (("best", 2, (A, B), True), ("best", 3, (A, B), False),
                                          ("best", -3, (C,), True), ("best", -2, (C, C), False),
                                          ("sum", 4, (B, B), True), ("sum", 5, (B, B), False),
                                          ("sum", -1, (B, C), True), ("sum", 0, (B, C), False),
                                          ("all", 0, (A, B), True), ("all", 1, (A, B), False),
                                          ("all", 2, (B, B, B), True), ("all", -3, (C, D), True),
                                          ("all", -2, (D, C, D), False), ("best", 7, (A, A, D, A, A, A), True)):
            self.assert_truth(Goal(WORTHS, kind, number)(hand), holds)
            self.assert_truth(Goal(number=number, kind=kind, worths=WORTHS)(hand=hand), holds)

    def test_many(self):
        chance = random.Random(41)
        for ways, _ in many_ways(42, 300):
            goal, worths = some_goal(chance, ways)
            hand = some_hand(chance, ways)
            measured = KINDS[goal.kind]([worths[place] for place in hand])
            self.assert_truth(goal(hand), measured >= goal.number)
            self.assert_truth(goal.changed(measured)(hand), True)
            self.assert_truth(goal.changed(number=measured + 1)(hand), False)

    def test_attributes(self):
        goal = Goal(WORTHS, "sum", -9999)
        self.assert_same((goal.kind, goal.number), ("sum", -9999))
        other = goal.changed(9999)
        self.assert_same((other.kind, other.number, goal.number), ("sum", 9999, -9999))
        self.assert_same([other.worth(place) for place in WORTHS], list(WORTHS.values()))

    def test_worth(self):
        goal = Goal({(0,): 4, (1, 0): -999, (2, -5, 3): 999}, "all", 0)
        self.assert_same([goal.worth((0,)), goal.worth(place=(1, 0)), goal.worth((2, -5, 3))], [4, -999, 999])
        for odd in ODD + ((1,), (False,), (True, 0), (1, False), [0], 0, (1, 0, 0), EqualToAll()):
            with self.assertRaises(UnknownPlace) as caught:
                goal.worth(odd)
            self.assertIs(caught.exception.place, odd)

    def test_call_refused(self):
        goal = Goal({A: 0, B: 1}, "best", 0)
        for odd in ODD + (C, (False,), 0):
            for hand in ((odd,), (A, odd), (A, odd, B, D), (odd, D)):
                self.refuses(UnknownPlace, "place", odd, goal, hand)
        self.refuses(UnknownPlace, "place", D, goal, (A, D, C))

    def test_refused_worths(self):
        for odd in (None, 5, "x", [], (), [(A, 0)], True, {A}, Goal, object(), EqualToAll()):
            self.refuses(BadWorths, "place", None, Goal, odd, "no", "no")
        for key in (None, 0, "x", (), (True,), (0, False), ("0",), ((0,),), (None,), b"x"):
            self.refuses(BadWorths, "place", None, Goal, {key: 1}, "sum", 0)
            self.refuses(BadWorths, "place", None, Goal, {A: 1, key: 1}, "no", None)
        for worth in (None, True, False, 1000, -1000, "1", (1, 1), [1], 10 ** 40):
            self.refuses(BadWorths, "place", None, Goal, {A: worth}, "sum", 0)
            self.refuses(BadWorths, "place", None, Goal, {A: 1, B: worth}, "no", None)
        self.assertEqual(Goal({}, "sum", 0), Goal({}, "sum", 0))

    def test_refused_kind(self):
        for odd in ODD + ("", "Best", "summ", "best ", ["sum"], ("sum",), "any", EqualToAll(), 0):
            self.refuses(BadGoal, "part", "kind", Goal, WORTHS, odd, None)
            self.refuses(BadGoal, "part", "kind", Goal, WORTHS, odd, 0)

    def test_refused_number(self):
        for odd in ODD + (10000, -10000, "0", (0, 1), 10 ** 40, EqualToAll()):
            self.refuses(BadGoal, "part", "number", Goal, WORTHS, "best", odd)
            self.refuses(BadGoal, "part", "number", Goal(WORTHS, "all", 3).changed, odd)

    def test_compared(self):
        goal = Goal(WORTHS, "sum", 3)
        self.assert_truth(goal == Goal({place: WORTHS[place] for place in reversed(list(WORTHS))}, "sum", 3), True)
        for other in (Goal(WORTHS, "sum", 4), Goal(WORTHS, "best", 3), Goal({**WORTHS, D: 6}, "sum", 3),
                      Goal({**WORTHS, (9,): 0}, "sum", 3), Goal({A: 0}, "sum", 3), None, 3, "sum", WORTHS):
            self.assert_truth(goal == other, False)
            self.assert_truth(goal != other, True)
        self.assert_truth(goal <= goal, True)
        self.assert_truth(goal <= Goal(WORTHS, "sum", 4), True)
        self.assert_truth(goal <= goal.changed(2), False)
        self.assert_truth(goal <= Goal(WORTHS, "all", 4), False)
        self.assert_truth(goal <= Goal({**WORTHS, D: 8}, "sum", 9), False)
        self.assert_truth(goal <= Goal({A: 0}, "sum", 9), False)

    def test_the_dict_may_be_changed_afterwards(self):
        worths = dict(WORTHS)
        goal = Goal(worths, "best", 7)
        worths[D] = 0
        worths.pop(A)
        self.assert_truth(goal((A, D)), True)
        self.assert_same(goal.worth(A), 0)
        self.assertEqual(goal, Goal(WORTHS, "best", 7))


class HandTest(Case):
    def test_is_hand(self):
        for value in ((A,), (A, A), (A, B), (A, A, B, D), (D, D, D, D), (C,)):
            self.assert_truth(is_hand(small_ways(), value), True)
        for value in ((), (B, A), (A, C, B), (A, A, A, A, A), [A], [A, B], A, (A, (9,)), ((9,),), {A: 1}, {A}):
            self.assert_truth(is_hand(small_ways(), value), False)
        self.assert_truth(is_hand(value=(A,), ways=small_ways()), True)
        for odd in ODD + (((False,),), (A, (True,)), (A, [1]), (A, 1), (A, None), EqualToAll(), (A, EqualToAll())):
            self.assert_truth(is_hand(small_ways(), odd), False)
        wide = Ways([(0, 0), (1, 0)], [])
        self.assert_truth(is_hand(wide, ((0, 0), (True, 0))), False)
        self.assert_truth(is_hand(wide, ((0, 0), (1, 0))), True)

    def test_hand_of(self):
        for places, hand in (([B], (B,)), ([B, A], (A, B)), ((D, A, D, A), (A, A, D, D)), ([A, A, A], (A, A, A)),
                             ([C, D, B, A], (A, B, C, D))):
            self.assert_same(hand_of(small_ways(), places), hand)
            self.assert_same(hand_of(places=places, ways=small_ways()), hand)
        for odd in ODD + ([A] * 5, [(9,)], [A, (9,)], [A, (False,)], [A, [1]], {A: 1}, {A}, A, "ab", 0, [A, None]):
            self.refuses(BadHand, "hand", odd, hand_of, small_ways(), odd)

    def test_hand_behind(self):
        for hand, index, behind in (((A, A), 0, (A, B)), ((A, A, A, B), 0, (A, A, B, B)), ((A,), 0, None),
                                    ((A, B), 0, None), ((A, B, C, D), 0, None), ((A, A, B, B), 1, (A, A, A, C)),
                                    ((A, B, B, B), 1, None), ((A, A, B), 1, None), ((A, B), 2, (A, A)),
                                    ((B, B), 2, (A, B)), ((B, D), 3, (B, C)), ((B, C), 3, None)):
            self.assert_same(hand_behind(small_ways(), hand, index), behind)
            self.assert_same(hand_behind(index=index, hand=hand, ways=small_ways()), behind)

    def test_two_at_one_place(self):
        ways = Ways([A, B], [((B, B), "", (A, B)), ((A, B), "", (B, A)), ((B, A), "", (A, A))])
        self.assert_same([hand_behind(ways, (A, B), index) for index in range(3)], [None, (A, B), (A, A)])
        self.assert_same([hand_behind(ways, (B, B), index) for index in range(3)], [(A, B), None, None])

    def test_hand_behind_refused(self):
        for odd in ODD + ((B, A), [A, A], ((9,),), (A,) * 5):
            for index in (0, None, 99):
                self.refuses(BadHand, "hand", odd, hand_behind, small_ways(), odd, index)
        for odd in ODD + (4, -1, "0", 10 ** 30):
            self.refuses(BadMove, "index", odd, hand_behind, small_ways(), (A, A), odd)

    def test_hand_behind_many(self):
        chance = random.Random(43)
        made = 0
        for ways, _ in many_ways(44, 200):
            hand = some_hand(chance, ways)
            for index, move in enumerate(ways.moves()):
                behind = hand_behind(ways, hand, index)
                self.assert_same(behind, told_behind(hand, move))
                made += behind is not None
        self.assertGreater(made, 200)


class HandsBehindTest(Case):
    def test_told(self):
        self.assert_same(list(hands_behind(small_ways(), (A, A, A, A))),
                         [(A, A, A, A), (A, A, A, B), (A, A, B, B), (A, B, B, B), (A, A, A, C), (A, A, B, C),
                          (A, B, B, C)])
        self.assert_same(list(hands_behind(small_ways(), (D,))), [(D,), (C,)])
        self.assert_same(list(hands_behind(small_ways(), (A,))), [(A,)])
        self.assert_same(list(hands_behind(hand=(B, D), ways=small_ways())), [(B, D), (A, D), (B, C), (A, C)])

    def test_order_by_index(self):
        ways = Ways([A, B, C, D], [((A,), "", (D,)), ((A, A), "", (C, C)), ((A,), "", (B,)), ((A, A), "", (B, B))])
        self.assert_same(list(hands_behind(ways, (A, A)))[:5], [(A, A), (A, D), (C, C), (A, B), (B, B)])
        swapped = Ways([A, B, C, D], ways.moves()[::-1])
        self.assert_same(list(hands_behind(swapped, (A, A)))[:5], [(A, A), (B, B), (A, B), (C, C), (A, D)])

    def test_many(self):
        chance = random.Random(45)
        many = 0
        for ways, _ in many_ways(46, 250):
            hand = some_hand(chance, ways)
            hands = list(hands_behind(ways, hand))
            # The dict is filled in the order that the document tells.
            self.assert_same(hands, list(told_hands(ways, hand)))
            many += len(hands) > 5
        self.assertGreater(many, 30)

    def test_books(self):
        chance = random.Random(47)
        for _ in range(15):
            ways = ways_of(some_book(chance, 3))
            hand = some_hand(chance, ways)
            self.assert_same(list(hands_behind(ways, hand)), list(told_hands(ways, hand)))

    def test_it_is_a_generator(self):
        hands = hands_behind(small_ways(), (A, A))
        self.assert_same(next(hands), (A, A))
        self.assert_same(list(hands), [(A, B)])
        for odd in ODD + ((B, A), [A]):
            hands = hands_behind(small_ways(), odd)
            self.refuses(BadHand, "hand", odd, next, hands)


class BestTest(Case):
    def test_told(self):
        hand = (A, A, A, A)
        for kind, best in (("best", 2), ("sum", 6), ("all", 0)):
            self.assert_same(best_of(small_ways(), hand, Goal(WORTHS, kind, 0)), best)
            self.assert_same(best_of(goal=Goal(WORTHS, kind, -9999), hand=hand, ways=small_ways()), best)
        self.assert_same(best_of(small_ways(), (D,), Goal({**WORTHS, C: 9}, "all", 0)), 9)
        self.assert_same(best_of(small_ways(), (A,), Goal({**WORTHS, A: -999}, "best", 5)), -999)
        goal = Goal({A: 999, B: 0, C: 0, D: 0}, "sum", 0)
        self.assert_same(best_of(small_ways(), (A, A, A, A), goal), 3996)

    def test_fewest_told(self):
        hand = (A, A, A, A)
        for kind, number, indexes in (("best", 0, []), ("best", 2, [0]), ("best", 3, None), ("sum", 3, [0, 0]),
                                      ("sum", 5, [0, 0, 0]), ("sum", 7, None), ("all", 0, []), ("all", 1, None)):
            self.assert_same(fewest(small_ways(), hand, Goal(WORTHS, kind, number)), indexes)
        goal = Goal({A: 0, B: 0, C: 1, D: 0}, "best", 1)
        self.assert_same(fewest(goal=goal, hand=hand, ways=small_ways()), [0, 0, 1])

    def test_many(self):
        chance = random.Random(48)
        found = {"none": 0, "now": 0, "later": 0}
        for ways, _ in many_ways(49, 400):
            hand = some_hand(chance, ways)
            goal, worths = some_goal(chance, ways)
            needs = told_hands(ways, hand)
            good = [needs[one] for one in needs if goal(one)]
            indexes = fewest(ways, hand, goal)
            best = max(KINDS[goal.kind]([worths[place] for place in one]) for one in needs)
            self.assert_same(best_of(ways, hand, goal), best)
            if not good:
                self.assertIsNone(indexes)
                self.assertLess(best, goal.number)
                found["none"] += 1
            else:
                self.assertEqual(len(indexes), min(good))
                behind = hand
                for index in indexes:
                    behind = hand_behind(ways, behind, index)
                self.assertTrue(goal(behind))
                self.assertGreaterEqual(best, goal.number)
                found["later" if indexes else "now"] += 1
        self.assertGreater(min(found.values()), 15)

    def test_books(self):
        for ways in (ways_of(simple_book()), ways_of(Book(0, 3, [(0, (1, -1), None, (-2, 2)), (2, None, (-1, 1), None)],
                                                          fresh=1, times=2)),
                     ways_of(Book(0, 2, [(0, (1, -1), (0, 0), (-1, 1))], bonus=1))):
            worths = {place: place[0] for place in ways.places()}
            for number in (1, 2, 3, 4):
                start = max(place for place in ways.places() if place[0] == 0)
                hand = (start,) * number
                for kind in KINDS:
                    best = max(KINDS[kind]([place[0] for place in one]) for one in told_hands(ways, hand))
                    self.assert_same(best_of(ways, hand, Goal(worths, kind, 0)), best)
                    self.assertIsNone(fewest(ways, hand, Goal(worths, kind, best + 1)))
                    self.assertIsNotNone(fewest(ways, hand, Goal(worths, kind, best)))

    def test_again(self):
        goal = Goal(WORTHS, "sum", 3)
        first = fewest(small_ways(), (A,) * 4, goal)
        first.clear()
        self.assert_same(fewest(small_ways(), (A,) * 4, goal), [0, 0])


class RefusedTest(Case):
    def test_in_order(self):
        for call in (best_of, fewest):
            for odd in ODD + ((B, A), [A, A], (A,) * 5, ((9,),), (A, (True,))):
                self.refuses(BadHand, "hand", odd, call, small_ways(), odd, None)
                self.refuses(BadHand, "hand", odd, call, small_ways(), odd, Goal({}, "sum", 0))
            for odd in ODD + (WORTHS, "sum", Goal, EqualToAll()):
                self.refuses(BadGoal, "part", "goal", call, small_ways(), (A,), odd)
            for place in WORTHS:
                lacks = {key: WORTHS[key] for key in WORTHS if key != place}
                self.refuses(UnknownPlace, "place", place, call, small_ways(), (A,), Goal(lacks, "best", -999))
            self.refuses(UnknownPlace, "place", B, call, small_ways(), (A,), Goal({A: 9, (7,): 1}, "best", 0))
            self.refuses(UnknownPlace, "place", A, call, small_ways(), (D,), Goal({D: 9}, "best", 0))
            call(small_ways(), (A,), Goal({**WORTHS, (7,): 1}, "best", 0))


if __name__ == "__main__":
    unittest.main()
