"""What the tests share: refusals, values of every kind, and books and ways of many kinds."""

import random
import unittest

from liftedladders.books import Book
from liftedladders.ways import Ways

# Values of every kind but integers, places and lists of them; Python takes some to be equal to such ones.
ODD = (None, True, False, "", "upper", b"x", (), [], {}, (True,), (True, 0), (0, False), [0, 0], ((0, 0),),
       (0, "0"), (0, None), ("0",), object(), Book, {(0, 0): 1})


class EqualToAll:
    """A value that says that it is equal to any other one."""

    __hash__ = None

    def __eq__(self, other):
        return True


class Case(unittest.TestCase):
    """A test case that can tell whether a call is refused with an error that keeps a value."""

    def refuses(self, error, name, kept, call, *told, **named):
        with self.assertRaises(error) as caught:
            call(*told, **named)
        self.assertIs(type(caught.exception), error)
        self.assert_same(getattr(caught.exception, name), kept)

    def refuses_itself(self, error, name, odd, call, *told, **named):
        """Refused with an error that keeps just this object, whatever it is equal to."""
        with self.assertRaises(error) as caught:
            call(*told, **named)
        self.assertIs(type(caught.exception), error)
        self.assertIs(getattr(caught.exception, name), odd)

    def assert_same(self, one, other):
        """Equal, and of one kind: True is not 1."""
        self.assertEqual(repr(one), repr(other))
        self.assertEqual(one, other)

    def assert_truth(self, one, other):
        """True or False itself."""
        self.assertIs(one, other)


def simple_book():
    """The book of the document's examples."""
    return Book(0, 2, [(0, (1, -1), (0, 0), (-1, 1))])


def some_entry(chance, most):
    if chance.random() < 0.2:
        return None
    return (chance.randint(-most, most), chance.randint(-most, most))


def some_book(chance, most_high=23):
    """A book of any kind, always the same one for the same state of chance."""
    while True:
        low = chance.randint(0, most_high)
        high = chance.randint(low, most_high)
        borders = [0] + sorted(chance.sample(range(1, 24), chance.randint(0, 5)))
        most = chance.choice([1, 2, 4, 9])
        table = [(border, *[some_entry(chance, most) for _ in range(3)]) for border in borders]
        parts = {}
        kind = chance.choice(["plain", "fresh", "bonus"])
        if kind == "fresh":
            parts = {"fresh": chance.randint(1, 2), "times": chance.randint(1, 3)}
        if kind == "bonus":
            parts = {"bonus": chance.randint(1, 5)}
        try:
            return Book(low, high, table, **parts)
        except OverflowError:
            continue


def some_ways(chance, most_places=7, most_moves=14):
    """Ways of any places and moves, with moves of one, two and four friends or some of these."""
    places = [(number,) if chance.random() < 0.5 else (number, chance.randint(-3, 3))
              for number in range(chance.randint(1, most_places))]
    sizes = chance.choice([(1, 2, 4), (1,), (2,), (4,), (2, 4), (1, 2)])
    moves = []
    for _ in range(chance.randint(0, most_moves)):
        size = chance.choice(sizes)
        ins, outs = [tuple(chance.choice(places) for _ in range(size)) for _ in range(2)]
        moves.append((ins, chance.choice(["", "a", "b"]), outs))
    chance.shuffle(places)
    return Ways(places, moves)


def many_ways(seed, number, **limits):
    """Many ways with a start each."""
    chance = random.Random(seed)
    for _ in range(number):
        ways = some_ways(chance, **limits)
        yield ways, chance.choice(ways.places())
