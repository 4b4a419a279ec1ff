"""Promises: papers of a hand and a goal tell both ways, and any value is judged by the definition."""

import random
import unittest

from liftedladders.errors import BadGoal, BadHand, UnknownPlace
from liftedladders.few import Goal, fewest, hands_behind
from liftedladders.fewpapers import few_paper, lets_few
from liftedladders.ways import Ways, ways_of
from tests.support import Case, EqualToAll, ODD, many_ways, simple_book, some_book
from tests.test_few import A, B, C, D, WORTHS, small_ways, some_goal, some_hand, told_behind

FOURS = (A, A, A, A)


def is_told_paper(ways, hand, goal, value):
    """Whether a tuple of a kind and a list is a paper, by the definition."""
    kind, row = value
    if kind == "run":
        for index in row:
            hand = told_behind(hand, ways.moves()[index])
            if hand is None:
                return False
        return goal(hand)
    return (hand in row and not any(goal(one) for one in row)
            and all(told_behind(one, move) in row + [None] for one in row for move in ways.moves()))


def other_papers(chance, ways, hand, value):
    """The paper with parts left out, doubled or put otherwise, and papers of the other kind."""
    kind, row = value
    yield (kind, row)
    for at in range(min(len(row), 8)):
        yield (kind, row[:at] + row[at + 1:])
        yield (kind, row[:at + 1] + row[at:])
        yield (kind, row[at:] + row[:at])
    yield (kind, row[::-1])
    yield ("never", list(hands_behind(ways, hand)))
    yield ("never", [some_hand(chance, ways) for _ in range(3)] + [hand])
    for many in range(4):
        if len(ways):
            yield ("run", [chance.randrange(len(ways)) for _ in range(many)])


class PaperTest(Case):
    def test_told(self):
        for kind, number, paper in (("best", 0, ("run", [])), ("best", 2, ("run", [0])),
                                    ("sum", 3, ("run", [0, 0])), ("all", -3, ("run", []))):
            self.assert_same(few_paper(small_ways(), FOURS, Goal(WORTHS, kind, number)), paper)
        told = few_paper(goal=Goal(WORTHS, "best", 3), hand=(A, A, A), ways=small_ways())
        self.assertEqual(told[0], "never")
        self.assertEqual(sorted(told[1]), [(A, A, A), (A, A, B), (A, B, B)])
        self.assertEqual(few_paper(small_ways(), (D,), Goal(WORTHS, "sum", 8)), ("never", [(D,), (C,)]))

    def test_many(self):
        chance = random.Random(51)
        kinds = {"run": 0, "never": 0}
        for ways, _ in many_ways(52, 300):
            hand = some_hand(chance, ways)
            goal, _ = some_goal(chance, ways)
            paper = few_paper(ways, hand, goal)
            self.assertIsInstance(paper, tuple)
            self.assertIsInstance(paper[1], list)
            self.assertEqual(len(paper), 2)
            indexes = fewest(ways, hand, goal)
            self.assertEqual(paper[0], "never" if indexes is None else "run")
            self.assertTrue(is_told_paper(ways, hand, goal, paper))
            self.assert_truth(lets_few(ways, hand, goal, paper), True)
            kinds[paper[0]] += 1
        self.assertGreater(min(kinds.values()), 50)

    def test_books(self):
        chance = random.Random(53)
        for _ in range(15):
            ways = ways_of(some_book(chance, 3))
            hand = some_hand(chance, ways)
            goal = Goal({place: place[0] for place in ways.places()}, chance.choice(["best", "sum", "all"]),
                        chance.randint(0, 6))
            self.assertTrue(is_told_paper(ways, hand, goal, few_paper(ways, hand, goal)))
            self.assert_truth(lets_few(ways, hand, goal, few_paper(ways, hand, goal)), True)

    def test_again(self):
        for number in (2, 3):
            first = few_paper(small_ways(), FOURS, Goal(WORTHS, "best", number))
            kept = (first[0], list(first[1]))
            first[1].clear()
            self.assert_same(few_paper(small_ways(), FOURS, Goal(WORTHS, "best", number)), kept)


class CheckerTest(Case):
    def lets(self, value, kind="sum", number=3, hand=FOURS):
        return lets_few(small_ways(), hand, Goal(WORTHS, kind, number), value)

    def test_runs(self):
        for row, holds in (([0, 0], True), ([0, 0, 0], True), ([0], False), ([], False), ([0, 0, 2], False),
                           ([0, 2, 0, 0], True), ([2, 0, 0], False), ([0, 0, 1], False), ([0, 0, 1, 0], False),
                           ([0, 0, 0, 0], False), ([0, 3, 0], False)):
            self.assert_truth(self.lets(("run", row)), holds)
        self.assert_truth(self.lets(("run", []), number=0), True)
        self.assert_truth(self.lets(("run", [0]), number=0), True)
        self.assert_truth(self.lets(("run", []), kind="best", number=1), False)
        self.assert_truth(lets_few(value=("run", [0]), goal=Goal(WORTHS, "best", 1), hand=FOURS, ways=small_ways()),
                          True)

    def test_nevers(self):
        hands = [(A, A, A), (A, A, B), (A, B, B)]
        for row, holds in ((hands, True), (hands[::-1], True), (hands + hands[:1], True), (hands + [(D,), (C,)], True),
                           (hands + [(B, C)], False), (hands[1:], False), (hands[:2], False), (hands[:1], False),
                           (hands[:1] + hands[2:], False), ([], False), (hands + [(D,)], False),
                           (hands + [(A, A)], False), (hands + [(A, A), (A, B)], True), (hands + [(C, C)], True),
                           (hands + [(D, D)], False)):
            self.assert_truth(self.lets(("never", row), "best", 3, (A, A, A)), holds and (D,) not in row)
            self.assert_truth(self.lets(("never", row), "best", 8, (A, A, A)), holds)
        self.assert_truth(self.lets(("never", hands), "best", 2, (A, A, A)), False)
        self.assert_truth(self.lets(("never", hands), "best", 3, (A, A, D)), False)

    def test_any_value(self):
        ways = ways_of(simple_book())
        goal = Goal({place: 0 for place in ways.places()}, "sum", 0)
        for odd in ODD + ("run", ("run",), ["run", []], ("run", [], []), ("ran", []), ("run", ()), ("run", {}),
                          ("run", None), ([], "run"), (None, []), (EqualToAll(), []), ("run", EqualToAll()),
                          ("Run", []), (("run",), []), (b"run", []), ("", []), EqualToAll()):
            self.assert_truth(lets_few(ways, ((0, 0),), goal, odd), False)
        self.assert_truth(lets_few(ways, ((0, 0),), goal, ("run", [])), True)

    def test_any_entries_of_runs(self):
        ways = Ways([A, B], [((A,), "", (B,)), ((B,), "", (B,))])
        goal = Goal({A: 0, B: 1}, "sum", 1)
        self.assert_truth(lets_few(ways, (A,), goal, ("run", [0])), True)
        self.assert_truth(lets_few(ways, (A,), goal, ("run", [0, 1])), True)
        for odd in ODD + (2, -1, -2, "0", (0,), 10 ** 30, EqualToAll()):
            self.assert_truth(lets_few(ways, (A,), goal, ("run", [odd])), False)
            self.assert_truth(lets_few(ways, (A,), goal, ("run", [0, odd])), False)
            self.assert_truth(lets_few(ways, (A,), goal, ("run", odd)), False)

    def test_any_entries_of_nevers(self):
        ways = Ways([(0, 0), (1, 0)], [])
        goal = Goal({(0, 0): 0, (1, 0): 0}, "best", 1)
        hand = ((1, 0),)
        self.assert_truth(lets_few(ways, hand, goal, ("never", [hand])), True)
        self.assert_truth(lets_few(ways, hand, goal, ("never", [((0, 0), (1, 0)), hand])), True)
        self.assert_truth(lets_few(ways, hand, goal, ("never", (hand,))), False)
        for odd in ODD + (((1, 0), (0, 0)), [(1, 0)], (1, 0), ((True, 0),), ((1, False),), ((0, 0),) * 5, ((2, 0),),
                          EqualToAll(), 0):
            if odd != ((0, 0),):
                self.assert_truth(lets_few(ways, hand, goal, ("never", [odd])), False)
                self.assert_truth(lets_few(ways, hand, goal, ("never", [hand, odd])), False)
            self.assert_truth(lets_few(ways, hand, goal, ("never", odd)), False)

    def test_whoever_wrote_it(self):
        chance = random.Random(54)
        found = {("run", True): 0, ("run", False): 0, ("never", True): 0, ("never", False): 0}
        for ways, _ in many_ways(55, 250, most_places=4, most_moves=6):
            hand = some_hand(chance, ways)
            goal, _ = some_goal(chance, ways)
            for value in other_papers(chance, ways, hand, few_paper(ways, hand, goal)):
                holds = is_told_paper(ways, hand, goal, value)
                found[(value[0], holds)] += 1
                self.assert_truth(lets_few(ways, hand, goal, value), holds)
                self.assert_truth(lets_few(ways, hand, goal, list(value)), False)
                self.assert_truth(lets_few(ways, hand, goal, (value[0], tuple(value[1]))), False)
        self.assertGreater(min(found.values()), 80)


class RefusedTest(Case):
    def test_in_order(self):
        for call, told in ((few_paper, ()), (lets_few, (("run", []),)), (lets_few, (None,))):
            for odd in ODD + ((B, A), [A, A], (A,) * 5, ((9,),), (A, (True,))):
                self.refuses(BadHand, "hand", odd, call, small_ways(), odd, None, *told)
                self.refuses(BadHand, "hand", odd, call, small_ways(), odd, Goal({}, "sum", 0), *told)
            for odd in ODD + (WORTHS, "sum", Goal, EqualToAll()):
                self.refuses(BadGoal, "part", "goal", call, small_ways(), (A,), odd, *told)
            for place in WORTHS:
                lacks = {key: WORTHS[key] for key in WORTHS if key != place}
                self.refuses(UnknownPlace, "place", place, call, small_ways(), (A,), Goal(lacks, "best", -999), *told)
            self.refuses(UnknownPlace, "place", B, call, small_ways(), (A,), Goal({A: 9, (7,): 1}, "best", 0), *told)

    def test_what_is_handed_in_stays(self):
        run, never = ("run", [0, 0]), ("never", [(A, A, A), (A, A, B), (A, B, B)])
        lets_few(small_ways(), FOURS, Goal(WORTHS, "sum", 3), run)
        lets_few(small_ways(), (A, A, A), Goal(WORTHS, "best", 3), never)
        self.assert_same((run, never), (("run", [0, 0]), ("never", [(A, A, A), (A, A, B), (A, B, B)])))


if __name__ == "__main__":
    unittest.main()
