"""Promises: names, arguments and kinds of values are as the interface lists them; each stands in its own file."""

import ast
import inspect
import importlib
from pathlib import Path
import unittest

PACKAGE = Path(__file__).resolve().parent.parent / "liftedladders"

# Under each file: functions with their parameters; classes as functions, their methods behind a dot.
INTERFACE = {
    "numbers": """is_integer(value, lowest, highest)  is_fraction(value)  fraction(over, under)  added(one, other)
        less(one, other)  multiplied(one, other)  is_above(one, other)""",
    "books": """Book(low, high, table, *, fresh=0, times=1, bonus=0)  Book.places()  Book.start(rating)
        Book.game(upper, lower, result)  Book.changed(part, value)""",
    "ways": """is_move(value)  Ways(places, moves)  Ways.places()  Ways.moves()  Ways.within(places)  games_of(book)
        ways_of(book)""",
    "lots": """Lot(counts)  Lot.places()  Lot.total()  Lot.can(move)  Lot.after(move)  Lot.mean(worths)
        Lot.at(place, many)  lots_behind(lot, moves)""",
    "reaching": """reached(ways, start)  climb(ways, start, place)  is_climb(ways, start, place, value)
        friends_of(ways, start, climb)  climb_moves(ways, start, climb)  is_closed(ways, start, place, value)""",
    "shares": """greatest(ways, start, worths)  best_batch(ways, start, worths)  best_price(ways, start, worths)
        rest_of(ways, start, batch)  share_at(ways, start, places)  lift(ways, start, worths, mean)""",
    "sharechecker": """lets_batch(ways, start, worths, mean, value)  lets_price(ways, start, worths, mean, value)""",
    "few": """Goal(worths, kind, number)  Goal.worth(place)  Goal.changed(number)  Goal.__call__(hand)
        is_hand(ways, value)  hand_of(ways, places)  hand_behind(ways, hand, index)  hands_behind(ways, hand)
        best_of(ways, hand, goal)  fewest(ways, hand, goal)""",
    "fewpapers": "few_paper(ways, hand, goal)  lets_few(ways, hand, goal, value)",
    "alone": """lone(ways, start, honest)  joint(ways, start, honest)  lifted(ways, start, honest)
        lone_within(ways, start, honest, games)  lone_run(ways, start, honest, place)
        lone_paper(ways, start, honest, place)  lets_lone(ways, start, honest, place, value)""",
    "duels": "Duel(table)  Duel.step(difference, result)  Duel.window(first)  Duel.play(first, results)",
    "longruns": """long_run(duel, first)  long_paper(duel, first)  bound_paper(duel, first)
        lets_long(duel, first, value)  lets_bound(duel, first, value)""",
    "bouts": """Day(bouts)  Day.players()  Day.in_order(indexes)  after_day(book, places, day)  ends(book, places, day)
        counts(book, places, day)  witness(book)  is_orderless(book)  lets_witness(book, value)""",
    "rests": """row_behind(book, one, other, row)  course(book, one, other, row)  rests(book, one, other, row)
        restless(book, row)  resting(book, row)""",
    "chances": """Chances(rows)  Chances.__call__(one, other)  Chances.rows()
        drift(book, chances, place, strength, other, others)  turns(book, chances, strength, opponents)
        summit(book, chances, strength, opponents, rating)
        greatest_mean(book, chances, place, strength, opponents, games)
        best_plan(book, chances, place, strength, opponents, games)
        mean_of(book, chances, place, strength, opponents, games, plan)""",
    "extras": """reset_moves(book, middle, part)  fade_moves(book, above)  team_game(book, upper, lower, result)
        team_moves(book)  feeds(ways, more, start, worths)""",
    "mends": """is_change(book, value)  mended(book, menu, choice)  rises(book, rating, others)  meets(book, wish)
        least_mends(book, menu, wishes)  greatest_kept(book, menu, wishes)  quarrels(book, menu, wishes)""",
    "told": """explains(low, high, games, table)  fewest_rows(low, high, games)  told_table(low, high, games)
        unlike_games(low, high, games)  may_follow(low, high, games, upper, lower, result)""",
    "likeness": "are_alike(one, other, rating)  first_unlike(one, other, rating)",
    "ladder": """Ladder(book)  Ladder.join(name, rating)  Ladder.enter(one, other, result)  Ladder.rebook(book)
        Ladder.names()  Ladder.__call__(name)  Ladder.order()  Ladder.games()  Ladder.undo()  Ladder.attempt(deed)
        Ladder.trying()""",
    "texts": "write_book(book)  write_games(games)  read_book(text)  read_games(text)",
    "console": "Console(book)  Console.say(row)",
}
# What the interface tells by signs, as the methods behind them.
SIGNS = {
    "books": {"Book": ["__len__", "__contains__", "__getitem__", "__eq__", "__iter__"]},
    "ways": {"Ways": ["__len__", "__contains__", "__getitem__", "__add__", "__eq__", "__iter__"]},
    "lots": {"Lot": ["__getitem__", "__contains__", "__add__", "__le__", "__eq__", "__iter__"]},
    "few": {"Goal": ["__call__", "__le__", "__eq__"]},
    "duels": {"Duel": ["__getitem__", "__eq__"]},
    "bouts": {"Day": ["__len__", "__add__", "__eq__"]},
    "chances": {"Chances": ["__call__", "__len__", "__eq__"]},
    "ladder": {"Ladder": ["__call__", "__len__", "__contains__", "__getitem__", "book"]},
}
GENERATORS = {"games_of", "lots_behind", "hands_behind", "Duel.play", "team_moves"}


def listed():
    for module, lines in INTERFACE.items():
        for entry in lines.split("  "):
            entry = " ".join(entry.split())
            if entry:
                yield module, entry.partition("(")[0], "(" + entry.partition("(")[2]


def defined(module):
    """The names that a file defines: functions, classes, and methods behind their class and a dot."""
    for node in ast.parse((PACKAGE / (module + ".py")).read_text("ascii")).body:
        if isinstance(node, (ast.FunctionDef, ast.ClassDef)):
            yield node.name
        if isinstance(node, ast.ClassDef):
            for part in node.body:
                if isinstance(part, ast.FunctionDef):
                    yield node.name + "." + part.name


class InterfaceTest(unittest.TestCase):
    def test_each_stands_in_its_file(self):
        for module, name, _ in listed():
            self.assertIn(name, list(defined(module)), module)

    def test_signs_stand_in_their_class(self):
        for module, classes in SIGNS.items():
            for name, methods in classes.items():
                for method in methods:
                    self.assertIn(name + "." + method, list(defined(module)), module)

    def test_modules(self):
        self.assertEqual({path.stem for path in PACKAGE.glob("*.py")} - {"__init__", "simplex"}, {"errors", *INTERFACE})

    def test_book_is_a_property(self):
        ladder = importlib.import_module("liftedladders.ladder").Ladder
        self.assertIsInstance(ladder.book, property)
        self.assertIsNotNone(ladder.book.fset)

    def test_arguments(self):
        for module, name, told in listed():
            value = importlib.import_module("liftedladders." + module)
            for part in name.split("."):
                value = getattr(value, part)
            found = list(inspect.signature(value).parameters.values())
            if found and found[0].name == "self":
                found = found[1:]
            self.assertEqual(str(inspect.Signature(found)), told, (module, name))

    def test_generators(self):
        for module, name, _ in listed():
            value = importlib.import_module("liftedladders." + module)
            for part in name.split("."):
                value = getattr(value, part)
            self.assertEqual(inspect.isgeneratorfunction(value), name in GENERATORS, (module, name))


if __name__ == "__main__":
    unittest.main()
