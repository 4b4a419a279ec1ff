"""Promises over the whole program: arguments by names in any order, nothing handed in changes, what is told is new."""

import copy
import doctest
import importlib
import inspect
import unittest

from liftedladders.books import Book
from liftedladders.bouts import Day
from liftedladders.chances import Chances
from liftedladders.duels import Duel
from liftedladders.few import Goal
from liftedladders.ladder import Ladder
from liftedladders.lots import Lot
from liftedladders.ways import Ways, ways_of
from tests.support import simple_book
from tests.test_interface import GENERATORS, INTERFACE, listed

EXAMPLES = """
>>> from liftedladders.books import Book
>>> book = Book(0, 2, [(0, (1, -1), (0, 0), (-1, 1))])
>>> [book.game((1, 0), (0, 0), 'upper'), book.game((0, 0), (0, 0), 'lower'), book.places()]
[((2, 0), (0, 0)), ((0, 0), (1, 0)), [(0, 0), (1, 0), (2, 0)]]
>>> from liftedladders.reaching import friends_of, is_climb, reached
>>> from liftedladders.ways import ways_of
>>> ways = ways_of(Book(0, 2, [(0, (1, -1), (0, 0), (-1, 1))]))
>>> [reached(ways, (0, 0)), is_climb(ways, (0, 0), (2, 0), [((1, 0), 0), ((2, 0), 3)])]
[[(0, 0), (1, 0), (2, 0)], True]
>>> friends_of(ways, (0, 0), [((1, 0), 0), ((2, 0), 3)])
3
>>> from liftedladders.shares import best_price, share_at
>>> share_at(ways, (0, 0), [(2, 0)])
(1, 1)
>>> best_price(ways, (0, 0), {(0, 0): 0, (1, 0): 0, (2, 0): 1})
{(0, 0): (1, 1), (1, 0): (1, 1), (2, 0): (1, 1)}
"""
ZERO, ONE, TWO = (0, 0), (1, 0), (2, 0)
WORTHS = {ZERO: 0, ONE: 0, TWO: 1}
CLIMB = [(ONE, 0), (TWO, 3)]
ROWS = [(0, (1, -1), (0, 0), (-1, 1))]
TOLD = (0, 2, [(1, 0, "upper", 2, 0), (1, 1, "draw", 1, 2)])
MENU = [("high", 3), ("entry", 0, "upper", None), ("low", 1)]
WISHES = [("none",), ("rise", 0, 1, (ZERO,)), ("bar", 0, 2, (1, 2))]


def samples():
    """For each function and class of the interface, by its module, arguments that fit."""
    book, duel = simple_book(), Duel(ROWS)
    ways, lot, chances = ways_of(book), Lot({ZERO: 3}), Chances([(0, (1, 2), (1, 4), (1, 4))])
    goal, hand, day = Goal(WORTHS, "best", 1), (ZERO, ZERO, ZERO), Day([(0, 1, "one"), (0, 1, "other")])
    playing = (book, chances, ONE, 20, [(ONE, 10)], 1)
    plan = {(1, place): 0 for place in book.places()}
    return {
        "numbers": {"is_integer": (3, 0, 5), "is_fraction": ((1, 2),), "fraction": (2, 4), "added": ((1, 2), (1, 3)),
                    "less": ((1, 2), (1, 3)), "multiplied": ((1, 2), (1, 3)), "is_above": ((1, 2), (1, 3))},
        "books": {},
        "ways": {"is_move": ((((1,),), "", ((2,),)),), "Ways": ([(2,), (1,)], [(((1,),), "", ((2,),))]), "games_of": (book,),
                 "ways_of": (book,)},
        "lots": {"Lot": ({ZERO: 3},), "lots_behind": (lot, [ways[0], ways[0]])},
        "reaching": {"reached": (ways, ZERO), "climb": (ways, ZERO, TWO), "is_climb": (ways, ZERO, TWO, CLIMB),
                     "friends_of": (ways, ZERO, CLIMB), "climb_moves": (ways, ZERO, CLIMB),
                     "is_closed": (ways, ZERO, TWO, [ZERO, ONE])},
        "shares": {"greatest": (ways, ZERO, WORTHS), "best_batch": (ways, ZERO, WORTHS), "best_price": (ways, ZERO, WORTHS),
                   "rest_of": (ways, ZERO, [(0, (1, 2))]), "share_at": (ways, ZERO, [TWO, TWO]),
                   "lift": (ways, ZERO, WORTHS, (1, 2))},
        "sharechecker": {"lets_batch": (ways, ZERO, WORTHS, (0, 1), [(0, (1, 2))]),
                         "lets_price": (ways, ZERO, WORTHS, (1, 1), {ZERO: (1, 1), ONE: (1, 1), TWO: (1, 1)})},
        "few": {"Goal": (WORTHS, "best", 1), "is_hand": (ways, hand), "hand_of": (ways, [ONE, ZERO]),
                "hand_behind": (ways, hand, 0), "hands_behind": (ways, hand), "best_of": (ways, hand, goal),
                "fewest": (ways, hand, goal)},
        "fewpapers": {"few_paper": (ways, hand, goal), "lets_few": (ways, hand, goal, ("run", [0, 3]))},
        "alone": {"lone": (ways, ZERO, [ZERO]), "joint": (ways, ZERO, [ZERO]), "lifted": (ways, ZERO, []),
                  "lone_within": (ways, ZERO, [ZERO], 1), "lone_run": (ways, ZERO, [ZERO], TWO),
                  "lone_paper": (ways, ZERO, [], TWO), "lets_lone": (ways, ZERO, [], TWO, ("never", [ZERO]))},
        "duels": {"Duel": (ROWS,)},
        "longruns": {"long_run": (duel, 1), "long_paper": (duel, 1), "bound_paper": (duel, 1),
                     "lets_long": (duel, 1, ("ring", [], ["draw"])), "lets_bound": (duel, 1, ("bound", (0, 1), {1: (0, 1)}))},
        "bouts": {"Day": ([(0, 1, "one")],), "after_day": (book, [ZERO, ZERO], day), "ends": (book, [ZERO, ZERO], day),
                  "counts": (book, [ZERO, ZERO], day), "witness": (book,), "is_orderless": (book,),
                  "lets_witness": (book, ((ZERO, ZERO), day))},
        "rests": {"row_behind": (book, ZERO, ONE, ["one"]), "course": (book, ZERO, ONE, ["one"]),
                  "rests": (book, ZERO, ONE, ["one"]), "restless": (book, ["one"]), "resting": (book, ["one"])},
        "chances": {"Chances": ([(0, (1, 2), (1, 4), (1, 4))],), "drift": (book, chances, ONE, 20, ZERO, 10),
                    "turns": (book, chances, 20, [(ONE, 10)]), "summit": (book, chances, 20, [(ONE, 10)], 0),
                    "greatest_mean": playing, "best_plan": playing, "mean_of": playing + (plan,)},
        "extras": {"reset_moves": (book, 0, 2), "fade_moves": (book, 0), "team_game": (book, (ONE, TWO), (ONE, ONE), "upper"),
                   "team_moves": (book,), "feeds": (ways, [((ZERO,), "", (TWO,))], ZERO, WORTHS)},
        "mends": {"is_change": (book, MENU[0]), "mended": (book, MENU, (0, 2)), "rises": (book, 0, (ZERO, ONE)),
                  "meets": (book, WISHES[1]), "least_mends": (book, MENU, WISHES), "greatest_kept": (book, MENU, WISHES),
                  "quarrels": (book, MENU, WISHES)},
        "told": {"explains": TOLD + (ROWS,), "fewest_rows": TOLD, "told_table": TOLD, "unlike_games": TOLD,
                 "may_follow": TOLD + (2, 0, "upper")},
        "likeness": {"are_alike": (book, book.changed("high", 3), 0), "first_unlike": (book, book.changed("high", 3), 0)},
        "ladder": {"Ladder": (book,)},
        "texts": {"write_book": (book,), "write_games": ([("a", "b", "upper")],), "read_book": ("low 0 high 2; 0 - - 1/1",),
                  "read_games": ("a b upper",)},
        "console": {"Console": (book,)},
    }


def calls():
    """The tuples (name, a call that takes arguments, arguments) of all functions and classes."""
    for module, told in samples().items():
        for name, arguments in told.items():
            value = getattr(importlib.import_module("liftedladders." + module), name)
            yield name, (lambda *told, value=value, **named: list(value(*told, **named))) if name in GENERATORS else value, \
                list(inspect.signature(value).parameters), arguments


def shown(value):
    """What stands for a value in a comparison: the state of an object without an equality of its own."""
    return vars(value) if type(value).__eq__ is object.__eq__ and hasattr(value, "__dict__") else value


class WholeTest(unittest.TestCase):
    def test_examples(self):
        test = doctest.DocTestParser().get_doctest(EXAMPLES, {}, "examples", None, None)
        self.assertEqual(doctest.DocTestRunner().run(test).failed, 0)

    def test_all_are_here(self):
        for module, told in samples().items():
            names = {name for other, name, _ in listed() if other == module and "." not in name}
            self.assertEqual(set(told), names - {"Book"}, module)
        self.assertEqual(set(samples()), set(INTERFACE))

    def test_by_names_in_any_order(self):
        for name, call, parameters, arguments in calls():
            by_name = dict(reversed(list(zip(parameters, arguments))))
            self.assertEqual(len(by_name), len(parameters), name)
            if name == "Console":
                self.assertEqual(call(**by_name).ladder.book, call(*arguments).ladder.book)
            else:
                self.assertEqual(shown(call(**by_name)), shown(call(*arguments)), name)

    def test_what_is_handed_in_stays(self):
        for name, call, _, arguments in calls():
            ahead = copy.deepcopy(arguments)
            call(*arguments)
            self.assertEqual(arguments, ahead, name)

    def test_told_lists_and_dicts_are_new(self):
        for name, call, _, arguments in calls():
            told = call(*arguments)
            if not isinstance(told, (list, dict, tuple)):
                continue
            kept = copy.deepcopy(told)
            for part in [told] + (list(told) if isinstance(told, tuple) else []):
                if isinstance(part, (list, dict)):
                    self.assertFalse(any(part is argument for argument in arguments), name)
                    part.clear()
            self.assertEqual(call(*arguments), kept, name)

    def test_no_class_is_equal_to_another(self):
        objects = [simple_book(), ways_of(simple_book()), Lot({ZERO: 1}), Goal(WORTHS, "best", 1), Duel(ROWS), Day([]),
                   Chances([(0, (1, 2), (1, 4), (1, 4))]), Ladder(simple_book()), None, 0, (), [], {}, "", ROWS, tuple(ROWS)]
        for at, one in enumerate(objects):
            for other in objects[:at] + objects[at + 1:]:
                self.assertIs(one == other, False)

    def test_what_cannot_be_iterated(self):
        for value in (simple_book(), ways_of(simple_book()), Lot({ZERO: 1}), Duel(ROWS), Ladder(simple_book())):
            with self.assertRaises(TypeError):
                iter(value)

    def test_attributes(self):
        book = Book(1, 4, ROWS, fresh=1, times=2)
        self.assertEqual((book.low, book.high, book.table, book.fresh, book.times, book.bonus), (1, 4, tuple(ROWS), 1, 2, 0))
        self.assertEqual((Duel(ROWS).table, Duel(ROWS).span, Duel(ROWS).far), (tuple(ROWS), 2, 2))
        self.assertEqual((Goal(WORTHS, "all", 3).kind, Goal(WORTHS, "all", 3).number), ("all", 3))
        self.assertEqual(Day([(0, 1, "one")]).bouts, ((0, 1, "one"),))
        self.assertEqual(len(Ways([ZERO], [])), 0)


if __name__ == "__main__":
    unittest.main()
