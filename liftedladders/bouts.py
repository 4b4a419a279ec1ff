"""Days of bouts, and whether the order of their games counts."""

from liftedladders.errors import BadBout, BadHand, TooMany
from liftedladders.numbers import is_integer

OUTCOMES = ("one", "draw", "other")
MOST_BOUTS = 6
MOST_PLAYER = 5
MOST_ORDERLESS = 12
# The result of a game of a book, where the upper one or the lower one is the bout's first player.
FOR_UPPER = {"one": "upper", "draw": "draw", "other": "lower"}
FOR_LOWER = {"one": "lower", "draw": "draw", "other": "upper"}
# The outcomes of bouts of two, and which of both is the first player: of equal ratings that one is the upper one.
KINDS = (("first", "one"), ("first", "draw"), ("first", "other"),
         ("second", "one"), ("second", "draw"), ("second", "other"))


def is_outcome(value):
    """Whether any value tells who of two wins."""
    return isinstance(value, str) and value in OUTCOMES


def is_bout(value):
    """Whether any value is a bout of players with numbers from 0 to 5."""
    if not isinstance(value, tuple) or len(value) != 3:
        return False
    one, other, outcome = value
    if not is_integer(one, 0, MOST_PLAYER) or not is_integer(other, 0, MOST_PLAYER):
        return False
    return one != other and is_outcome(outcome)


class Day:
    """Bouts, counted one behind the other."""

    def __init__(self, bouts):
        if not isinstance(bouts, (list, tuple)) or len(bouts) > MOST_BOUTS:
            raise BadBout(None)
        for index, bout in enumerate(bouts):
            if not is_bout(bout):
                raise BadBout(index)
        self.bouts = tuple(bouts)

    def __eq__(self, other):
        return isinstance(other, Day) and self.bouts == other.bouts

    def __len__(self):
        return len(self.bouts)

    def __add__(self, other):
        """The day with one more bout."""
        return Day(self.bouts + (other,))

    def players(self):
        """How many players there must be."""
        most = -1
        for one, other, _ in self.bouts:
            if one > most:
                most = one
            if other > most:
                most = other
        return most + 1

    def in_order(self, indexes):
        """The day in another order."""
        if not isinstance(indexes, (list, tuple)) or len(indexes) != len(self.bouts):
            raise BadBout(None)
        known = {}
        for index in indexes:
            if not is_integer(index, 0, len(self.bouts) - 1) or index in known:
                raise BadBout(None)
            known[index] = True
        return Day([self.bouts[index] for index in indexes])


def bout_behind(book, one, other, outcome):
    """The places of both behind a bout; of equal ratings one is the upper one."""
    if other[0] > one[0]:
        behind = book.game(other, one, FOR_LOWER[outcome])
        return (one, other) if behind is None else (behind[1], behind[0])
    behind = book.game(one, other, FOR_UPPER[outcome])
    return (one, other) if behind is None else behind


def counted(book, places, bout):
    """The tuple of the places of all players behind a bout."""
    one, other, outcome = bout
    there = list(places)
    there[one], there[other] = bout_behind(book, places[one], places[other], outcome)
    return tuple(there)


def are_places(book, places, day):
    """Whether a list or tuple has places of the book, as many as the players of a day or more."""
    return all([place in book for place in places]) and len(places) >= day.players()


def check_places(book, places, day):
    """Raises BadHand for any value that is no list of places of the book, as many as players or more."""
    if not isinstance(places, (list, tuple)) or not are_places(book, places, day):
        raise BadHand(places)


def after_day(book, places, day):
    """The tuple of the places behind a day."""
    check_places(book, places, day)
    there = tuple(places)
    for bout in day.bouts:
        there = counted(book, there, bout)
    return there


def ends(book, places, day):
    """The ascending list of the tuples of places to which the orders of a day lead."""
    check_places(book, places, day)
    # Orders that have counted the same bouts and led to the same places go on together.
    ahead = {(day.bouts, tuple(places)): True}
    for _ in day.bouts:
        behind = {}
        for left, there in ahead:
            for at, bout in enumerate(left):
                behind[(left[:at] + left[at + 1:], counted(book, there, bout))] = True
        ahead = behind
    return sorted(set([there for _, there in ahead]))


def counts(book, places, day):
    """Whether the orders of a day lead to two or more tuples of places."""
    return len(ends(book, places, day)) > 1


def answers(book):
    """The dict from (kind, place, other place) to both places behind, for the KINDS of bouts of two players."""
    told = {}
    for place in book.places():
        for other in book.places():
            for kind in KINDS:
                if kind[0] == "first":
                    told[(kind, place, other)] = bout_behind(book, place, other, kind[1])
                else:
                    behind = bout_behind(book, other, place, kind[1])
                    told[(kind, place, other)] = (behind[1], behind[0])
    return told


def bout_of(kind, number):
    """The bout of such a kind of the players 0 and number."""
    return (0, number, kind[1]) if kind[0] == "first" else (number, 0, kind[1])


def witness(book):
    """Places and a Day of two bouts whose order counts; None if the book is orderless."""
    if len(book) > MOST_ORDERLESS:
        raise TooMany(MOST_ORDERLESS)
    told = answers(book)
    # Bouts of one player with two others are enough: if their order never counts, a bout does not change what a
    # later one does to the other player of that one, and what both do to the shared player is the same in both
    # orders; so two bouts of one pair lead to the same in both orders, too.
    for place in book.places():
        games = [(kind, other) for other in book.places() for kind in KINDS]
        for at, (kind, other) in enumerate(games):
            first, one = told[(kind, place, other)]
            for later, third in games[at:]:
                second, two = told[(later, place, third)]
                last, two_behind = told[(later, first, third)]
                if (last, one, two_behind) != told[(kind, second, other)] + (two,):
                    return ((place, other, third), Day([bout_of(kind, 1), bout_of(later, 2)]))
    return None


def is_orderless(book):
    """Whether all orders of all days leave all players at the same places."""
    return witness(book) is None


def lets_witness(book, value):
    """Whether any value is a tuple of places and a Day whose order counts there."""
    if not isinstance(value, tuple) or len(value) != 2:
        return False
    places, day = value
    if not isinstance(places, tuple) or not isinstance(day, Day):
        return False
    return are_places(book, places, day) and counts(book, places, day)
