"""Promises: the long run of two without end is exact; papers show it both ways; any value is judged."""

from fractions import Fraction
import random
import unittest

from liftedladders.duels import Duel
from liftedladders.errors import BadGame
from liftedladders.longruns import bound_paper, lets_bound, lets_long, long_paper, long_run
from liftedladders.numbers import is_fraction
from tests.support import Case, EqualToAll, ODD
from tests.test_duels import NOBODY, PLAIN, TWO, some_duel

RESULTS = ("upper", "draw", "lower")
# Goes up by each game that the upper one wins, and makes points by it.
UPWARD = [(0, (3, -1), None, None)]
# Goes up in the last row alone: from 9 on; below, each game leads back to 0 in the end.
LATE = [(0, None, None, (-1, 2)), (9, (5, 0), None, None)]
# Comes to an end: behind two games nothing counts.
ENDS = [(0, (2, 0), None, None), (4, None, None, None)]


def pair(value):
    return (value.numerator, value.denominator)


def steps(duel, difference):
    """The list (result, difference behind, points) of the results that count, told by the table anew."""
    row = [row for row in duel.table if row[0] <= difference][-1]
    told = []
    for result, entry in zip(RESULTS, row[1:]):
        if entry is not None:
            behind = difference + entry[0] - entry[1]
            told.append((result, behind if behind >= 0 else -behind, entry[0] + entry[1]))
    return told


def rising(duel):
    return {result: sum(entry) for result, entry in zip(RESULTS, duel.table[-1][1:])
            if entry is not None and entry[0] > entry[1]}


def reachable(duel, first, most):
    there, row = {first}, [first]
    while row:
        row = [behind for one in row for _, behind, _ in steps(duel, one) if behind <= most and behind not in there]
        row = sorted(set(row))
        there |= set(row)
    return sorted(there)


def greatest_ring(duel, first, most):
    """The greatest mean of a ring up to a difference, by Karp's rule; None if there is no ring."""
    there = reachable(duel, first, most)
    best = [{first: 0}]
    for _ in there:
        later = {}
        for one, points in best[-1].items():
            for _, behind, more in steps(duel, one):
                if behind <= most and points + more > later.get(behind, -10 ** 9):
                    later[behind] = points + more
        best.append(later)
    many = len(there)
    return max([min(Fraction(points - row[one], many - at) for at, row in enumerate(best[:many]) if one in row)
                for one, points in best[many].items()], default=None)


def told_long_run(duel, first, most):
    """The greater one of the best ring and the best way up for ever."""
    runs = [greatest_ring(duel, first, most)]
    if reachable(duel, first, most)[-1] >= duel.table[-1][0]:
        runs += [Fraction(points) for points in rising(duel).values()]
    return max([run for run in runs if run is not None], default=None)


def told_play(duel, difference, results):
    """The difference and the points behind a play, or None."""
    points = 0
    for result in results:
        there = {name: (behind, more) for name, behind, more in steps(duel, difference)}
        if result not in there:
            return None
        difference, points = there[result][0], points + there[result][1]
    return difference, points


def told_long(duel, first, value):
    """What a tuple of a kind, a list and a list or a result shows, by the definition."""
    kind, lead, last = value
    behind = told_play(duel, first, lead)
    if behind is None:
        return None
    if kind == "up":
        return pair(Fraction(rising(duel)[last])) if behind[0] >= duel.table[-1][0] and last in rising(duel) else None
    ring = told_play(duel, behind[0], last)
    if not last or ring is None or ring[0] != behind[0]:
        return None
    return pair(Fraction(ring[1], len(last)))


def told_bound(duel, first, most, heights):
    """Whether a Fraction and a dict of them are a bound, by the definition."""
    window = duel.window(first)
    if first not in heights or not all(0 <= one <= window for one in heights):
        return False
    for one in heights:
        for _, behind, points in steps(duel, one):
            if behind <= window:
                if behind not in heights or points > most + heights[one] - heights[behind]:
                    return False
        if one >= duel.table[-1][0] and any(points > most for points in rising(duel).values()):
            return False
    return True


class LongRunTest(Case):
    def test_told(self):
        for table, first, run in ((PLAIN, 0, (0, 1)), (NOBODY, 0, None), (NOBODY, 23, None), (ENDS, 0, None),
                                  (ENDS, 3, None), (ENDS, 4, None), (UPWARD, 0, (2, 1)), (UPWARD, 23, (2, 1)),
                                  (LATE, 0, (1, 1)), (LATE, 8, (1, 1)), (LATE, 9, (5, 1)), (LATE, 23, (5, 1)),
                                  ([(0, (1, 1), None, None)], 4, (2, 1)), ([(0, (0, 0), None, (-9, -9))], 0, (0, 1)),
                                  ([(0, None, None, (-9, -9))], 7, (-18, 1)), ([(0, None, None, (2, 3))], 7, (5, 1)),
                                  ([(0, None, (-9, 9), (-9, -8))], 0, (0, 1)),
                                  ([(0, (3, -2), None, None), (5, None, None, (-4, 1))], 0, (-1, 1)),
                                  ([(0, (2, 0), None, None), (3, None, None, (-1, 1))], 0, (1, 1)),
                                  ([(0, (1, 0), None, None), (2, None, None, (-2, 0))], 0, (0, 1)),
                                  ([(0, (1, 0), None, None), (2, None, None, (-1, 1))], 1, (2, 3)),
                                  ([(0, (2, 2), None, None), (1, None, (-1, -1), None)], 1, (-2, 1)),
                                  ([(0, None, (1, 0), None), (3, (-3, 0), None, (-2, 2))], 0, (2, 3))):
            self.assert_same(long_run(Duel(table), first), run)
            self.assert_same(long_run(first=first, duel=Duel(table)), run)

    def test_two_ways_up_the_better_one(self):
        self.assert_same(long_run(Duel([(0, (1, 0), (3, 1), (4, -3))]), 5), (4, 1))
        self.assert_same(long_run(Duel([(0, (1, 0), (-2, -1), (4, -3))]), 5), (1, 1))

    def test_a_ring_beside_a_way_up(self):
        duel = Duel([(0, (4, 0), None, (-3, 8))])
        # Up by four and down by eleven: 4 * 11 and 5 * 4 points in 15 games.
        self.assertGreater(Fraction(*long_run(duel, 0)), 4)
        self.assertEqual(Fraction(*long_run(duel, 0)), told_long_run(duel, 0, 80))

    def test_many(self):
        chance = random.Random(83)
        kinds = {"ring": 0, "up": 0, None: 0}
        for _ in range(120):
            duel, first = some_duel(chance), chance.randint(0, 23)
            run = told_long_run(duel, first, duel.window(first))
            self.assert_same(long_run(duel, first), None if run is None else pair(run))
            paper = long_paper(duel, first)
            kinds[None if paper is None else paper[0]] += 1
        self.assertGreater(min(kinds["ring"], kinds["up"]), 15)

    def test_a_wider_window_gives_nothing_more(self):
        chance = random.Random(84)
        for _ in range(12):
            duel, first = some_duel(chance), chance.randint(0, 23)
            run = told_long_run(duel, first, duel.window(first) + 40)
            self.assert_same(long_run(duel, first), None if run is None else pair(run))

    def test_sparse_duels_may_come_to_an_end(self):
        chance = random.Random(85)
        none = 0
        for _ in range(150):
            borders = [0] + sorted(chance.sample(range(1, 24), chance.randint(0, 5)))
            table = [(border, *[(chance.randint(-9, 9), chance.randint(-9, 9)) if chance.random() < 0.2 else None
                                for _ in range(3)]) for border in borders]
            duel, first = Duel(table), chance.randint(0, 23)
            run = told_long_run(duel, first, duel.window(first))
            self.assert_same(long_run(duel, first), None if run is None else pair(run))
            none += run is None
            self.assert_truth(long_paper(duel, first) is None, run is None)
            self.assert_truth(bound_paper(duel, first) is None, run is None)
        self.assertGreater(none, 40)

    def test_refused(self):
        good = Duel(PLAIN)
        for odd in ODD + (-1, 24, 10 ** 30, "0", EqualToAll()):
            for call, told in ((long_run, ()), (long_paper, ()), (bound_paper, ()), (lets_long, (None,)),
                               (lets_bound, (None,)), (lets_long, (("ring", [], ["draw"]),))):
                with self.assertRaises(BadGame) as caught:
                    call(good, odd, *told)
                self.assertIs(caught.exception.value, odd)


class PaperTest(Case):
    def test_told(self):
        self.assert_same(long_paper(Duel(UPWARD), 0), ("up", [], "upper"))
        self.assert_same(long_paper(Duel(LATE), 12), ("up", [], "upper"))
        self.assert_same(long_paper(first=0, duel=Duel([(0, (1, 0), None, None), (3, (1, -1), (2, 1), None)])),
                         ("up", ["upper"] * 3, "draw"))
        self.assert_same(long_paper(Duel([(0, None, (-1, 0), None)]), 0), ("ring", [], ["draw", "draw"]))
        self.assert_same(bound_paper(Duel([(0, None, None, (-1, 1))]), 0), ("bound", (0, 1), {0: (0, 1), 2: (0, 1)}))

    def test_both_ways(self):
        chance = random.Random(86)
        for _ in range(200):
            duel, first = some_duel(chance), chance.randint(0, 23)
            run, paper, bound = long_run(duel, first), long_paper(duel, first), bound_paper(duel, first)
            if run is None:
                self.assertIsNone(paper)
                self.assertIsNone(bound)
                continue
            self.assertTrue(is_fraction(run))
            self.assert_same(told_long(duel, first, paper), run)
            self.assert_same(lets_long(duel, first, paper), run)
            kind, most, heights = bound
            self.assert_same((kind, most), ("bound", run))
            told = {one: Fraction(*heights[one]) for one in heights}
            self.assertTrue(told_bound(duel, first, Fraction(*run), told))
            self.assert_truth(lets_bound(duel, first, bound), True)
            self.assert_truth(lets_bound(duel, first, ("bound", pair(Fraction(*run) + 1), heights)), True)
            self.assert_truth(lets_bound(duel, first, ("bound", pair(Fraction(*run) - Fraction(1, 10 ** 6)), heights)),
                              False)

    def test_again(self):
        duel = Duel([(0, (-1, 0), None, None), (4, None, (0, 2), None)])
        for call in (lambda: long_paper(duel, 7)[1], lambda: long_paper(duel, 7)[2], lambda: bound_paper(duel, 7)[2],
                     lambda: long_paper(Duel(PLAIN), 5)[1]):
            first, kept = call(), repr(call())
            first.clear()
            self.assertEqual(repr(call()), kept)


class LetsLongTest(Case):
    def test_rings(self):
        duel = Duel(TWO)
        for first, lead, ring, run in ((7, ["draw"], ["upper", "draw"], None), (5, [], ["upper", "draw"], None),
                                       (6, ["draw"], ["upper", "upper", "lower"], None),
                                       (0, [], ["upper", "upper", "draw", "lower", "draw", "draw"], None),
                                       (5, [], ["upper", "upper", "draw"], (2, 3)), (5, [], [], None),
                                       (5, ["upper"], ["draw", "upper", "upper"], None),
                                       (5, ["upper", "upper"], ["draw", "upper", "upper"], (2, 3)),
                                       (5, ["upper"] * 30, ["draw", "upper", "upper"], (2, 3)),
                                       (5, ["lower"], ["draw", "upper", "upper"], None),
                                       (2, [], ["lower", "draw", "upper", "draw", "upper", "draw"], None)):
            told = told_long(duel, first, ("ring", lead, ring))
            self.assert_same(lets_long(duel, first, ("ring", lead, ring)), told)
            if run is not None:
                self.assert_same(told, run)
        self.assert_same(lets_long(value=("ring", [], ["draw"]), first=3, duel=Duel(PLAIN)), (0, 1))
        self.assert_same(lets_long(Duel(PLAIN), 3, ("ring", [], ["upper", "lower"])), (0, 1))
        self.assert_same(lets_long(Duel([(0, (3, 3), (1, 1), None)]), 3, ("ring", [], ["upper", "draw"])), (4, 1))
        self.assert_same(lets_long(Duel([(0, (3, 3), (1, 0), (-1, 0))]), 3, ("ring", [], ["upper", "draw", "lower"])),
                         (2, 1))
        self.assert_same(lets_long(Duel([(0, (3, 3), (1, 0), (-1, 0))]), 3, ("ring", [], ["draw", "upper"])), None)
        self.assert_same(lets_long(Duel([(0, (3, 4), (0, 0), (1, 0))]), 3, ("ring", [], ["draw", "lower", "upper"])),
                         (8, 3))

    def test_ups(self):
        duel = Duel([(0, (2, 1), (-1, 0), (1, 0)), (4, (2, -1), (3, 3), None)])
        for first, lead, result, run in ((4, [], "upper", (1, 1)), (3, ["upper"], "upper", (1, 1)), (3, [], "upper", None),
                                         (4, [], "draw", None), (4, [], "lower", None), (5, ["lower"], "upper", None),
                                         (3, ["lower", "upper", "draw"], "upper", (1, 1)), (4, [], "won", None),
                                         (3, ["draw", "upper"], "upper", None), (23, [], "upper", (1, 1))):
            self.assert_same(lets_long(duel, first, ("up", lead, result)), run)
        self.assert_same(lets_long(Duel([(0, (1, 2), (2, 2), (3, 2))]), 0, ("up", [], "upper")), None)
        self.assert_same(lets_long(Duel([(0, (1, 2), (2, 2), (3, 2))]), 0, ("up", [], "draw")), None)
        self.assert_same(lets_long(Duel([(0, (1, 2), (2, 2), (-3, -4))]), 0, ("up", [], "lower")), (-7, 1))

    def test_any_value(self):
        duel = Duel([(0, (1, 0), (0, 0), None)])
        self.assert_same(lets_long(duel, 0, ("ring", [], ["draw"])), (0, 1))
        self.assert_same(lets_long(duel, 0, ("up", [], "upper")), (1, 1))
        for odd in ODD + ("ring", ("ring",), ("ring", []), ("ring", [], ["draw"], 0), ["ring", [], ["draw"]],
                          ("ring", (), ["draw"]), ("ring", [], ("draw",)), ("ring", None, ["draw"]), ("up", [], ["upper"]),
                          ("up", (), "upper"), ["up", [], "upper"], ("up", [], "upper", 0), ("up", "upper"),
                          ("Up", [], "upper"), ("rings", [], ["draw"]), ("bound", (1, 1), {0: (0, 1)}),
                          (EqualToAll(), [], ["draw"]), (None, [], ["draw"]), ([], [], []), ("ring", [], []),
                          EqualToAll(), ("up", [], EqualToAll()), ("ring", [], EqualToAll()), ("ring", {}, ["draw"]),
                          ("ring", "", ["draw"]), ("ring", [], "draw"), ("up", [], None)):
            self.assertIsNone(lets_long(duel, 0, odd))
        for odd in ODD + ("", "Draw", "one", "lower", ["draw"], EqualToAll(), 1):
            if not isinstance(odd, str) or odd not in ("upper", "draw"):
                self.assertIsNone(lets_long(duel, 0, ("ring", [], ["draw", odd])))
                self.assertIsNone(lets_long(duel, 0, ("ring", [odd], ["draw"])))
                self.assertIsNone(lets_long(duel, 0, ("up", [odd], "upper")))
                self.assertIsNone(lets_long(duel, 0, ("up", [], odd)))

    def test_whoever_wrote_it(self):
        chance = random.Random(87)
        found = {"ring": 0, "up": 0, None: 0}
        for _ in range(300):
            duel, first = some_duel(chance), chance.randint(0, 23)
            paper = long_paper(duel, first) or ("ring", [], ["draw"])
            rows = [paper]
            kind, lead, last = paper
            at = chance.randint(0, len(lead))
            rows += [(kind, lead[:at] + lead[at + 1:], last), (kind, lead[:at] + lead[max(0, at - 1):], last),
                     (kind, lead[::-1], last), ("ring", lead, ["draw"]), ("up", lead, chance.choice(RESULTS)),
                     ("ring", [], [chance.choice(RESULTS) for _ in range(2)]), ("up", [], chance.choice(RESULTS))]
            if kind == "ring":
                at = chance.randrange(len(last))
                rows += [(kind, lead, last + last), (kind, lead + last, last), (kind, lead, last[at:] + last[:at]),
                         (kind, lead, last[:at] + last[at + 1:]), (kind, lead + last[:at], last[at:] + last[:at])]
            for value in rows:
                told = told_long(duel, first, value)
                found[None if told is None else value[0]] += 1
                self.assert_same(lets_long(duel, first, value), told)
                if told is not None:
                    self.assertLessEqual(Fraction(*told), Fraction(*long_run(duel, first)))
        self.assertGreater(min(found.values()), 150)


class LetsBoundTest(Case):
    def test_told(self):
        duel = Duel([(0, (1, 0), None, None), (2, None, None, (-2, 0))])
        # From 0 to 1 and to 2 with one point each, and back to 0 with two less: the long run is 0.
        good = {0: (0, 1), 1: (-1, 1), 2: (-2, 1)}
        for most, heights, holds in (((0, 1), good, True), ((1, 9), good, True), ((-1, 9), good, False),
                                     ((0, 1), {0: (5, 2), 1: (3, 2), 2: (1, 2)}, True),
                                     ((0, 1), {0: (0, 1), 1: (-1, 1)}, False), ((0, 1), {1: (-1, 1), 2: (-2, 1)}, False),
                                     ((0, 1), {0: (0, 1), 1: (-1, 1), 2: (-3, 1)}, False),
                                     ((0, 1), {0: (0, 1), 1: (-2, 1), 2: (-2, 1)}, False),
                                     ((0, 1), {0: (-1, 1), 1: (-1, 1), 2: (-2, 1)}, False),
                                     ((1, 1), {0: (0, 1), 1: (0, 1), 2: (0, 1)}, True),
                                     ((1, 2), {0: (0, 1), 1: (0, 1), 2: (0, 1)}, False), ((0, 1), {}, False),
                                     ((0, 1), {**good, 3: (-4, 1)}, False), ((0, 1), {**good, 3: (-3, 1)}, True),
                                     ((0, 1), {**good, 6: (-4, 1), 4: (-4, 1)}, True), ((0, 1), {**good, 6: (0, 1)}, False),
                                     ((0, 1), {**good, 7: (0, 1)}, False), ((0, 1), {**good, -1: (0, 1)}, False)):
            told = {one: Fraction(*heights[one]) for one in heights}
            self.assertEqual(told_bound(duel, 0, Fraction(*most), told), holds, (most, heights))
            self.assert_truth(lets_bound(duel, 0, ("bound", most, heights)), holds)
        self.assertEqual(duel.window(0), 6)
        self.assert_truth(lets_bound(value=("bound", (0, 1), good), first=0, duel=duel), True)
        self.assert_truth(lets_bound(duel, 2, ("bound", (0, 1), good)), True)
        self.assert_truth(lets_bound(duel, 3, ("bound", (0, 1), good)), False)

    def test_beyond_the_last_border(self):
        duel = Duel(LATE)
        self.assert_same(bound_paper(duel, 23)[1], (5, 1))
        heights = bound_paper(duel, 23)[2]
        self.assert_truth(lets_bound(duel, 23, ("bound", (4, 1), {one: (-4 * one, 1) for one in heights})), False)
        self.assert_truth(lets_bound(duel, 23, ("bound", (5, 1), {one: (0, 1) for one in heights})), True)
        low = bound_paper(duel, 0)
        self.assert_same(low[1], (1, 1))
        self.assertLess(max(low[2]), 9)
        self.assert_truth(lets_bound(duel, 0, low), True)
        # Going up for ever leaves the window: no ring is in it, but the points of the way up count.
        up = Duel([(0, (2, 1), None, None)])
        most = up.window(0)
        heights = {one: (-2 * one, 1) for one in range(most + 1)}
        self.assert_truth(lets_bound(up, 0, ("bound", (1, 1), heights)), False)
        self.assert_truth(lets_bound(up, 0, ("bound", (3, 1), heights)), True)
        self.assert_truth(lets_bound(up, 0, ("bound", (29, 10), heights)), False)
        # One that leaves the window at once is beyond the last border, too.
        far = Duel([(0, None, None, None), (5, (9, -9), None, None)])
        self.assert_truth(lets_bound(far, 4, ("bound", (-18, 1), {4: (0, 1)})), True)
        for heights, holds in (({4: (0, 1)}, True), ({4: (0, 1), 23: (18, 1), 41: (0, 1)}, False)):
            self.assert_truth(lets_bound(far, 4, ("bound", (-18, 1), heights)), holds)
            self.assert_truth(lets_bound(far, 4, ("bound", (0, 1), heights)), True)
        self.assert_truth(lets_bound(far, 5, ("bound", (-18, 1), {5: (0, 1), 23: (0, 1), 41: (0, 1)})), False)
        self.assert_truth(lets_bound(far, 5, ("bound", (0, 1), {5: (0, 1), 23: (0, 1)})), False)
        self.assert_truth(lets_bound(far, 5, ("bound", (0, 1), {5: (0, 1), 23: (0, 1), 41: (0, 1)})), True)

    def test_a_play_that_ends(self):
        self.assertIsNone(bound_paper(Duel(ENDS), 0))
        self.assert_truth(lets_bound(Duel(ENDS), 0, ("bound", (-18, 1), {0: (0, 1), 2: (-20, 1), 4: (-40, 1)})), True)
        self.assert_truth(lets_bound(Duel(NOBODY), 0, ("bound", (-10 ** 9, 1), {0: (0, 1)})), True)
        self.assert_truth(lets_bound(Duel(NOBODY), 23, ("bound", (0, 1), {0: (0, 1)})), False)
        self.assert_truth(lets_bound(Duel(NOBODY), 23, ("bound", (0, 1), {23: (0, 1)})), True)

    def test_any_value(self):
        duel = Duel([(0, (0, 1), (1, 1), (0, -1))])
        good = bound_paper(duel, 0)
        self.assert_truth(lets_bound(duel, 0, good), True)
        _, most, heights = good
        self.assertIn(1, heights)
        for odd in ODD + ("bound", ("bound",), ("bound", most), (most, heights), ("bound", most, heights, 0),
                          ["bound", most, heights], ("Bound", most, heights), (None, most, heights),
                          (EqualToAll(), most, heights), ("ring", [], ["upper"]), ("up", [], "upper"),
                          ("bound", most, list(heights.items())), ("bound", most, EqualToAll()), EqualToAll(),
                          ([], most, heights)):
            self.assert_truth(lets_bound(duel, 0, odd), False)
        for odd in ODD + ((4, 2), (2, 0), (-2, -1), (2,), [2, 1], 2, (2, 1, 1), (2, True), (True, 1), EqualToAll()):
            self.assert_truth(lets_bound(duel, 0, ("bound", odd, heights)), False)
            for one in heights:
                self.assert_truth(lets_bound(duel, 0, ("bound", (99, 1), {**heights, one: odd})), False)
        for odd, one in ((True, 1), (False, 0)):
            changed = {odd if key == one else key: heights[key] for key in heights}
            self.assertEqual(changed, heights)
            self.assert_truth(lets_bound(duel, 0, ("bound", most, changed)), False)
        for odd in (None, "", "0", (), (0,), -1, 10 ** 30, duel.window(0) + 1):
            self.assert_truth(lets_bound(duel, 0, ("bound", most, {**heights, odd: (0, 1)})), False)

    def test_whoever_wrote_it(self):
        chance = random.Random(88)
        found = {True: 0, False: 0}
        for _ in range(200):
            duel, first = some_duel(chance), chance.randint(0, 23)
            paper = bound_paper(duel, first)
            if paper is None:
                continue
            for _ in range(4):
                heights = {one: Fraction(*paper[2][one]) for one in paper[2]}
                most = Fraction(*paper[1]) + chance.choice([0, 0, 0, Fraction(1, 3), -Fraction(1, 5)])
                for one in list(heights):
                    if chance.random() < 0.05:
                        heights[one] += Fraction(chance.randint(-2, 2), chance.randint(1, 3))
                if chance.random() < 0.1:
                    heights.pop(chance.choice(list(heights)))
                if chance.random() < 0.2:
                    heights[chance.randint(0, duel.window(first))] = Fraction(chance.randint(-9, 9))
                value = ("bound", pair(most), {one: pair(heights[one]) for one in heights})
                holds = told_bound(duel, first, most, heights)
                found[holds] += 1
                self.assert_truth(lets_bound(duel, first, value), holds)
                if holds:
                    self.assertGreaterEqual(most, Fraction(*long_run(duel, first)))
        self.assertGreater(min(found.values()), 100)

    def test_what_is_handed_in_stays(self):
        ring, bound = ("ring", [], ["draw"]), ("bound", (2, 1), {0: (0, 1)})
        lets_long(Duel(PLAIN), 0, ring)
        lets_bound(Duel(PLAIN), 0, bound)
        self.assert_same((ring, bound), (("ring", [], ["draw"]), ("bound", (2, 1), {0: (0, 1)})))


if __name__ == "__main__":
    unittest.main()
