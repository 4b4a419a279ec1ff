"""Promises: what one alone reaches against honest ones, what friends reach beyond, papers of it; errors in order."""

import random
import unittest

from liftedladders.alone import joint, lets_lone, lifted, lone, lone_paper, lone_run, lone_within
from liftedladders.books import Book
from liftedladders.errors import BadGames, BadHonest, UnknownPlace
from liftedladders.reaching import reached
from liftedladders.ways import Ways, ways_of
from tests.support import Case, EqualToAll, ODD, many_ways, simple_book, some_book

A, B, C, D, E = (0,), (1,), (2,), (3,), (4,)
UP = ((A, A), "up", (B, A))
TWO = ((B, C), "two", (D, C))
FOUR = ((D, C, C, A), "four", (E, C, B, A))
BACK = ((B,), "back", (A,))


def small_ways():
    return Ways([A, B, C, D, E], [UP, TWO, FOUR, BACK])


def told_steps(ways, honest):
    """All tuples (place, index, at, out) of what one alone can do."""
    return [(place, index, at, outs[at]) for index, (ins, _, outs) in enumerate(ways.moves())
            for at, place in enumerate(ins)
            if all(other in honest for seat, other in enumerate(ins) if seat != at)]


def told_needs(ways, start, honest):
    """The fewest games to each lone place."""
    needs = {start: 0}
    for games in range(len(ways.places())):
        for place, _, _, out in told_steps(ways, honest):
            if needs.get(place) == games:
                needs.setdefault(out, games + 1)
    return needs


def told_joint(ways, start, honest):
    """The joint places: who is at an in, a friend or an honest one, is told in each way anew."""
    there = {start}
    while True:
        more = set(there)
        for ins, _, outs in ways.moves():
            if all(place in there or place in honest for place in ins):
                more |= {out for place, out in zip(ins, outs) if place in there}
        if more == there:
            return sorted(there)
        there = more


def some_honest(chance, ways):
    return [chance.choice(ways.places()) for _ in range(chance.choice([0, 1, 1, 2, 4]))]


def is_told_run(ways, start, honest, place, row):
    """Whether a list of tuples of integers is a lone run to a place, by the definition."""
    steps = {(index, at): (one, out) for one, index, at, out in told_steps(ways, honest)}
    for step in row:
        if step not in steps or steps[step][0] != start:
            return False
        start = steps[step][1]
    return start == place


def is_told_never(ways, start, honest, place, row):
    """Whether a list of places shows that one is not come to, by the definition."""
    closed = all(out in row for one, _, _, out in told_steps(ways, honest) if one in row)
    return row == sorted(set(row)) and start in row and place not in row and closed


class ListsTest(Case):
    def test_lone(self):
        for start, honest, places in ((A, [], [A]), (A, [A], [A, B]), (A, [B, C], [A]), (A, [A, C], [A, B, D, E]),
                                      (B, [], [A, B]), (B, [C], [A, B, D]), (C, [B], [C]), (D, [A, C], [D, E]),
                                      (C, [A, C, D], [A, B, C, D, E]), (E, [A, B, C, D, E], [E]), (A, [D], [A]),
                                      (D, [A], [D]), (D, [C], [D])):
            self.assert_same(lone(small_ways(), start, honest), places)
            self.assert_same(lone(honest=tuple(honest), start=start, ways=small_ways()), places)

    def test_which_in_is_the_friend(self):
        ways = Ways([A, B, C, D], [((A, B), "", (C, D))])
        self.assert_same(lone(ways, A, [B]), [A, C])
        self.assert_same(lone(ways, B, [A]), [B, D])
        self.assert_same(lone(ways, A, [A]), [A])
        self.assert_same(lone(ways, A, [A, B]), [A, C])
        both = Ways([A, C, D], [((A, A), "", (C, D))])
        self.assert_same(lone(both, A, [A]), [A, C, D])
        self.assert_same(lone(both, A, []), [A])
        fours = Ways([A, B, C], [((A, A, B, A), "", (B, B, C, B))])
        self.assert_same(lone(fours, A, [B]), [A])
        self.assert_same(lone(fours, B, [A]), [B, C])

    def test_what_honest_ones_lose_or_win_does_not_count(self):
        ways = Ways([A, B, C, D], [((A, B), "", (A, C)), ((A, C), "", (D, C))])
        self.assert_same(lone(ways, A, [B]), [A])
        self.assert_same(lone(ways, A, [C]), [A, D])
        self.assert_same(joint(ways, A, [B]), [A])
        self.assert_same(joint(ways, A, [C]), [A, D])

    def test_joint(self):
        for start, honest, places in ((A, [], [A, B]), (A, [B], [A, B]), (A, [C], [A, B, D, E]), (A, [A], [A, B]),
                                      (B, [C], [A, B, D, E]), (C, [A], [C]), (D, [A, C], [D, E]), (D, [A], [D]),
                                      (E, [A, B, C, D], [E]), (C, [D], [C]),
                                      # By the four, with honest ones at D and A, to B, from there to A, and to D.
                                      (C, [D, A], [A, B, C, D, E])):
            self.assert_same(joint(small_ways(), start, honest), places)
            self.assert_same(joint(honest=tuple(honest), start=start, ways=small_ways()), places)

    def test_lifted(self):
        self.assert_same(lifted(small_ways(), A, []), [B])
        self.assert_same(lifted(small_ways(), A, [A]), [])
        self.assert_same(lifted(small_ways(), A, [C]), [B, D, E])
        self.assert_same(lifted(honest=(C,), start=B, ways=small_ways()), [E])

    def test_many(self):
        chance = random.Random(61)
        many = 0
        for ways, start in many_ways(62, 500):
            honest = some_honest(chance, ways)
            alone = sorted(told_needs(ways, start, honest))
            together = told_joint(ways, start, honest)
            self.assert_same(lone(ways, start, honest), alone)
            self.assert_same(joint(ways, start, honest), together)
            self.assert_same(lifted(ways, start, honest), [place for place in together if place not in alone])
            self.assertLessEqual(set(alone), set(together))
            many += len(together) > len(alone) > 1
        self.assertGreater(many, 30)

    def test_joint_without_honest_ones_is_reached(self):
        for ways, start in many_ways(63, 100):
            self.assert_same(joint(ways, start, []), reached(ways, start))

    def test_books(self):
        chance = random.Random(64)
        for _ in range(20):
            ways = ways_of(some_book(chance, 4))
            start, honest = chance.choice(ways.places()), some_honest(chance, ways)
            self.assert_same(lone(ways, start, honest), sorted(told_needs(ways, start, honest)))
            self.assert_same(joint(ways, start, honest), told_joint(ways, start, honest))
        ways = ways_of(simple_book())
        self.assert_same(lone(ways, (0, 0), [(0, 0)]), [(0, 0), (1, 0), (2, 0)])
        self.assert_same(lone(ways, (0, 0), []), [(0, 0)])
        ways = ways_of(Book(0, 3, [(0, (1, -1), None, (-1, 1)), (1, None, None, None)]))
        self.assert_same(lone(ways, (0, 0), [(0, 0)]), [(0, 0), (1, 0)])
        self.assert_same(lifted(ways, (0, 0), [(0, 0)]), [(2, 0), (3, 0)])

    def test_twice_told_honest_ones(self):
        self.assert_same(lone(small_ways(), A, [A, A, C, A]), [A, B, D, E])


class WithinTest(Case):
    def test_told(self):
        for games, places in ((0, [A]), (1, [A, B]), (2, [A, B, D]), (3, [A, B, D, E]), (999, [A, B, D, E])):
            self.assert_same(lone_within(small_ways(), A, [A, C], games), places)
            self.assert_same(lone_within(games=games, honest=(C, A), start=A, ways=small_ways()), places)
        for games in (0, 1, 999):
            self.assert_same(lone_within(small_ways(), A, [], games), [A])

    def test_many(self):
        chance = random.Random(65)
        for ways, start in many_ways(66, 200):
            honest = some_honest(chance, ways)
            needs = told_needs(ways, start, honest)
            for games in (0, 1, 2, 3, 4, 5, 6, 999):
                self.assert_same(lone_within(ways, start, honest, games),
                                 sorted(place for place in needs if needs[place] <= games))

    def test_refused(self):
        for odd in ODD + (-1, 1000, 10 ** 30, "0", (0, 1), EqualToAll()):
            self.refuses(BadGames, "number", odd, lone_within, small_ways(), A, [], odd)
            self.refuses(BadHonest, "index", 0, lone_within, small_ways(), A, [(9,)], odd)
            self.refuses(BadHonest, "index", None, lone_within, small_ways(), A, None, odd)
            self.refuses(UnknownPlace, "place", (9,), lone_within, small_ways(), (9,), None, odd)


class RunTest(Case):
    def test_told(self):
        for place, run in ((A, []), (B, [(0, 0)]), (D, [(0, 0), (1, 0)]), (E, [(0, 0), (1, 0), (2, 0)])):
            self.assert_same(lone_run(small_ways(), A, [A, C], place), run)
            self.assert_same(lone_run(place=place, honest=[A, C], start=A, ways=small_ways()), run)
        self.assertIsNone(lone_run(small_ways(), A, [A], C))
        self.assert_same(lone_run(small_ways(), C, [A, C, D], B), [(2, 2)])

    def test_many(self):
        chance = random.Random(67)
        long = 0
        for ways, start in many_ways(68, 300):
            honest = some_honest(chance, ways)
            needs = told_needs(ways, start, honest)
            for place in ways.places():
                run = lone_run(ways, start, honest, place)
                if place not in needs:
                    self.assertIsNone(run)
                else:
                    self.assertEqual(len(run), needs[place])
                    self.assertTrue(is_told_run(ways, start, honest, place, run))
                    long += len(run) > 1
        self.assertGreater(long, 30)

    def test_again(self):
        for call in (lambda: lone_run(small_ways(), A, [A, C], E), lambda: lone(small_ways(), A, [A, C]),
                     lambda: joint(small_ways(), A, [A, C]), lambda: lone_within(small_ways(), A, [A, C], 9),
                     lambda: lone_paper(small_ways(), A, [A, C], E)[1], lambda: lifted(small_ways(), A, [C]),
                     lambda: lone_paper(small_ways(), A, [], E)[1]):
            first = call()
            kept = list(first)
            first.clear()
            self.assert_same(call(), kept)


class PaperTest(Case):
    def test_told(self):
        told = lone_paper(small_ways(), A, [A, C], E)
        self.assert_same(told, ("run", [(0, 0), (1, 0), (2, 0)]))
        self.assert_same(lone_paper(small_ways(), A, [A, C], A), ("run", []))
        self.assert_same(lone_paper(small_ways(), A, [A], D), ("never", [A, B]))
        self.assert_same(lone_paper(place=D, honest=[], start=A, ways=small_ways()), ("never", [A]))

    def test_what_is_told_is_taken(self):
        chance = random.Random(69)
        kinds = {"run": 0, "never": 0}
        for ways, start in many_ways(70, 300):
            honest = some_honest(chance, ways)
            needs = told_needs(ways, start, honest)
            for place in ways.places():
                paper = lone_paper(ways, start, honest, place)
                self.assertEqual(paper[0], "run" if place in needs else "never")
                self.assert_truth(lets_lone(ways, start, honest, place, paper), True)
                self.assert_truth(lets_lone(ways, start, tuple(honest), place, paper), True)
                kinds[paper[0]] += 1
        self.assertGreater(min(kinds.values()), 100)

    def test_runs(self):
        for place, row, holds in ((E, [(0, 0), (1, 0), (2, 0)], True), (E, [(0, 0), (1, 0)], False),
                                  (D, [(0, 0), (1, 0)], True), (E, [(1, 0), (2, 0)], False),
                                  (E, [(0, 0), (2, 0)], False), (A, [], True), (B, [], False),
                                  (A, [(0, 0), (3, 0)], True), (A, [(0, 1)], True), (A, [(0, 1), (0, 1)], True),
                                  (B, [(0, 1), (0, 0)], True), (B, [(0, 0), (0, 0)], False), (B, [(0, 1)], False),
                                  (E, [(0, 0), (0, 0), (1, 0), (2, 0)], False), (D, [(1, 0), (0, 0)], False),
                                  (D, [(0, 0), (1, 1)], False), (A, [(2, 3)], False)):
            self.assert_truth(lets_lone(small_ways(), A, [A, C], place, ("run", row)), holds)
        self.assert_truth(lets_lone(small_ways(), A, [C], B, ("run", [(0, 0)])), False)
        self.assert_truth(lets_lone(small_ways(), B, [], D, ("run", [(1, 0)])), False)
        self.assert_truth(lets_lone(value=("run", [(1, 0)]), place=D, honest=(C,), start=B, ways=small_ways()), True)

    def test_nevers(self):
        for honest, place, row, holds in (([A], D, [A, B], True), ([A], D, [A], False), ([A], D, [B], False),
                                          ([A], D, [A, A, B], False), ([A], D, [B, A], False),
                                          ([A], D, [A, B, C], True), ([A], D, [A, B, D], False),
                                          ([A], B, [A], False), ([], B, [A], True), ([], A, [A], False),
                                          ([], B, [], False), ([], E, [A, B, C, D], True), ([], E, [A, B, D], True),
                                          ([], E, [A, D, B], False), ([C], E, [A, B], False), ([C], E, [A, B, D], True),
                                          ([C], E, [A, D], True), ([C, A], E, [A, B, D], False)):
            self.assert_truth(lets_lone(small_ways(), A, honest, place, ("never", row)), holds)

    def test_any_value(self):
        ways = ways_of(simple_book())
        start, there, away = (0, 0), (1, 0), (2, 0)
        good = ("run", [(0, 0)])
        self.assert_truth(lets_lone(ways, start, [start], there, good), True)
        self.assert_truth(lets_lone(ways, start, [], there, ("never", [start])), True)
        for odd in ODD + ("run", ("run",), ["run", [(0, 0)]], ("run", [(0, 0)], []), ("ran", [(0, 0)]),
                          ("run", ((0, 0),)), ("run", {(0, 0): 1}), (EqualToAll(), [(0, 0)]), EqualToAll(),
                          ("never", (start,)), ["never", [start]], ("never", {start: 1}), ("never", [start], 1),
                          ("Never", [start]), (None, [start]), ([], [start]), ("run", EqualToAll())):
            self.assert_truth(lets_lone(ways, start, [start], there, odd), False)
            self.assert_truth(lets_lone(ways, start, [], there, odd), False)
        for odd in ODD + ((0, True), (False, 0), (0, False), (0, 2), (0, -1), (0, -2), (-1, 0), (99, 0), (0, 0, 0),
                          (0,), [0, 0], 0, ("0", 0), (0, None), (10 ** 30, 0), (0, 10 ** 30), EqualToAll(),
                          (EqualToAll(), 0), (0, EqualToAll())):
            self.assert_truth(lets_lone(ways, start, [start], there, ("run", [odd])), False)
            self.assert_truth(lets_lone(ways, start, [start], there, ("run", odd)), False)
        for odd in ODD + ((9, 0), (False, 0), (0, False), (0,), 0, EqualToAll(), there):
            self.assert_truth(lets_lone(ways, start, [], there, ("never", [odd, away])), False)
            self.assert_truth(lets_lone(ways, start, [], there, ("never", [start, odd])), False)
            self.assert_truth(lets_lone(ways, start, [], there, ("never", odd)), False)
        self.assert_truth(lets_lone(ways, start, [], there, ("never", [start, away])), True)
        self.assert_truth(lets_lone(ways, start, [], there, ("never", [start, start])), False)

    def test_steps_in_range(self):
        ways = Ways([A, B], [((A,), "", (B,)), ((A,), "", (B,))])
        for step, holds in (((0, 0), True), ((1, 0), True), ((2, 0), False), ((-1, 0), False), ((-2, 0), False),
                            ((0, 1), False), ((0, -1), False), ((1, -1), False), ((True, 0), False), ((0, False), False)):
            self.assert_truth(lets_lone(ways, A, [], B, ("run", [step])), holds)

    def test_whoever_wrote_it(self):
        chance = random.Random(71)
        found = {("run", True): 0, ("run", False): 0, ("never", True): 0, ("never", False): 0}
        for ways, start in many_ways(72, 400, most_places=5):
            honest = some_honest(chance, ways)
            for place in ways.places():
                kind, row = lone_paper(ways, start, honest, place)
                at = chance.randint(0, len(row))
                changed = [row, row[:at] + row[at + 1:], row[:at] + row[max(0, at - 1):], row[::-1]]
                if kind == "never":
                    changed += [sorted(set(row) | {chance.choice(ways.places())}), ways.places()]
                elif len(ways):
                    index = chance.randrange(len(ways))
                    changed.append(row + [(index, chance.randrange(len(ways[index][0])))])
                for value in changed:
                    told = is_told_run if kind == "run" else is_told_never
                    holds = told(ways, start, honest, place, value)
                    found[(kind, holds)] += 1
                    self.assert_truth(lets_lone(ways, start, honest, place, (kind, value)), holds)
        self.assertGreater(min(found.values()), 100)


class RefusedTest(Case):
    calls = ((lone, ()), (joint, ()), (lifted, ()), (lone_within, (3,)), (lone_run, (B,)), (lone_paper, (B,)),
             (lets_lone, (B, None)), (lets_lone, (B, ("run", []))))

    def test_start(self):
        for call, told in self.calls:
            for odd in ODD + ((9,), (False,), [0], 0, EqualToAll()):
                self.refuses_itself(UnknownPlace, "place", odd, call, small_ways(), odd, None, *told)
                self.refuses_itself(UnknownPlace, "place", odd, call, small_ways(), odd, [(9,)], *told)

    def test_honest(self):
        for call, told in self.calls:
            for odd in (None, {}, {A: 1}, {A}, "", "ab", 0, True, object(), EqualToAll()):
                self.refuses(BadHonest, "index", None, call, small_ways(), A, odd, *told)
            for odd in ODD + ((9,), (False,), [0], 0, EqualToAll()):
                for index in range(3):
                    honest = [A, B, C][:index] + [odd] + [A, None]
                    self.refuses(BadHonest, "index", index, call, small_ways(), A, honest, *told)
                    self.refuses(BadHonest, "index", index, call, small_ways(), A, tuple(honest), *told)

    def test_place_behind_honest(self):
        for call, told in ((lone_run, ()), (lone_paper, ()), (lets_lone, (None,)), (lets_lone, (("run", []),))):
            for odd in ODD + ((9,), (False,), [0], 0, EqualToAll()):
                self.refuses_itself(UnknownPlace, "place", odd, call, small_ways(), A, [A], odd, *told)
                self.refuses(BadHonest, "index", 1, call, small_ways(), A, [A, 0], odd, *told)
                self.refuses(BadHonest, "index", None, call, small_ways(), A, None, odd, *told)

    def test_what_is_handed_in_stays(self):
        honest = [A, C, A]
        for call, told in self.calls:
            call(small_ways(), A, honest, *told)
        self.assert_same(honest, [A, C, A])


if __name__ == "__main__":
    unittest.main()
