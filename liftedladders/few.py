"""What a hand of one to four friends can come to."""

from liftedladders.errors import BadGoal, BadHand, BadWorths, UnknownPlace
from liftedladders.numbers import is_integer
from liftedladders.shares import MOST_WORTH
from liftedladders.ways import is_place

KINDS = ("best", "sum", "all")
MOST_NUMBER = 9999
MOST_FRIENDS = 4


class Goal:
    """By worths, a kind and a number, whether a hand is good."""

    def __init__(self, worths, kind, number):
        if not isinstance(worths, dict):
            raise BadWorths(None)
        if not all([is_place(place) and is_integer(worths[place], -MOST_WORTH, MOST_WORTH) for place in worths]):
            raise BadWorths(None)
        if not isinstance(kind, str) or kind not in KINDS:
            raise BadGoal("kind")
        if not is_integer(number, -MOST_NUMBER, MOST_NUMBER):
            raise BadGoal("number")
        self._worths = {place: worths[place] for place in worths}
        self.kind = kind
        self.number = number

    def __eq__(self, other):
        return (isinstance(other, Goal) and self._worths == other._worths and self.kind == other.kind
                and self.number == other.number)

    def __le__(self, other):
        """Whether only the number is another one, and not a greater one."""
        return (isinstance(other, Goal) and self._worths == other._worths and self.kind == other.kind
                and self.number <= other.number)

    def __call__(self, hand):
        """Whether a tuple of one or more places is good."""
        return self.measured(hand) >= self.number

    def worth(self, place):
        """The worth of a place."""
        if not is_place(place) or place not in self._worths:
            raise UnknownPlace(place)
        return self._worths[place]

    def measured(self, hand):
        """The greatest number with which a tuple of one or more places would be good."""
        worths = [self.worth(place) for place in hand]
        if self.kind == "sum":
            return sum(worths)
        if self.kind == "best":
            return max([int(worth) for worth in worths])
        return min([int(worth) for worth in worths])

    def changed(self, number):
        """The goal with another number."""
        return Goal(self._worths, self.kind, number)


class HandMoves:
    """The moves of some ways, made by hands.

    A hand is written here as one number: each place of it adds a unit, and the unit of a place is eight times that
    of the place ahead of it. So a move adds the same number to each hand that can make it.
    """

    def __init__(self, ways):
        self._places = ways.places()
        self._units = {}
        unit = 1
        for place in self._places:
            self._units[place] = unit
            unit = unit * 8
        self._changes = {}
        known = {}
        for index, (ins, _, outs) in enumerate(ways.moves()):
            taken = self.written(ins)
            change = self.written(outs) - taken
            # Of moves that take and bring the same, the first one does for all.
            if (taken, change) not in known:
                known[(taken, change)] = True
                self._changes.setdefault(taken, []).append((index, change))

    def written(self, places):
        """The number of a tuple of places."""
        return sum([self._units[place] for place in places])

    def told(self, number):
        """The hand of a number."""
        hand = []
        for place in self._places:
            hand.extend([place] * (number % 8))
            number = number // 8
        return tuple(hand)

    def onward(self, number):
        """The list of the tuples (index, number of the hand behind the move), by the indexes."""
        made = [entry for part in self._parts(number) for entry in self._changes.get(part, ())]
        return [(index, number + change) for index, change in sorted(set(made))]

    def _parts(self, number):
        """The numbers of what moves of one, two and four may take from a hand, each one once."""
        units = [self._units[place] for place in self.told(number)]
        parts = {}
        for at, one in enumerate(units):
            parts[one] = True
            for other in units[at + 1:]:
                parts[one + other] = True
        if len(units) == MOST_FRIENDS:
            parts[number] = True
        return list(parts)


def is_hand(ways, value):
    """Whether any value is a hand."""
    if not isinstance(value, tuple) or not 1 <= len(value) <= MOST_FRIENDS:
        return False
    if not all([place in ways for place in value]):
        return False
    return all([value[at - 1] <= value[at] for at in range(1, len(value))])


def check_hand(ways, hand):
    """Raises BadHand for any value that is no hand."""
    if not is_hand(ways, hand):
        raise BadHand(hand)


def ordered(places):
    """The ascending tuple of some places, each as often as it stands there."""
    return tuple([place for place in sorted(set(places)) for _ in range(places.count(place))])


def hand_of(ways, places):
    """The hand of a list of places."""
    if not isinstance(places, (list, tuple)) or not all([place in ways for place in places]):
        raise BadHand(places)
    if not 1 <= len(places) <= MOST_FRIENDS:
        raise BadHand(places)
    return ordered(places)


def hand_behind(ways, hand, index):
    """The hand behind a move, or None if it cannot be made."""
    check_hand(ways, hand)
    ins, _, outs = ways[index]
    left = list(hand)
    for place in ins:
        if place not in left:
            return None
        left.remove(place)
    return ordered(left + list(outs))


def numbers_behind(moves, hand):
    """For each hand behind a hand, in order, the tuple (its number, the number ahead of it, index of the move)."""
    first = moves.written(hand)
    seen = {first: True}
    row = [first]
    yield (first, None, None)
    at = 0
    while at < len(row):
        number = row[at]
        for index, behind in moves.onward(number):
            if behind not in seen:
                seen[behind] = True
                row.append(behind)
                yield (behind, number, index)
        at += 1


def hands_behind(ways, hand):
    """The hands behind a hand, by fewest moves, then as moves, by index, of earlier ones lead to them."""
    check_hand(ways, hand)
    moves = HandMoves(ways)
    for number, _, _ in numbers_behind(moves, hand):
        yield moves.told(number)


def check_told(ways, hand, goal):
    """Raises the errors of a hand and a goal."""
    check_hand(ways, hand)
    if not isinstance(goal, Goal):
        raise BadGoal("goal")
    for place in ways.places():
        goal.worth(place)


def best_of(ways, hand, goal):
    """The greatest number with which some hand behind a hand would be good."""
    check_told(ways, hand, goal)
    moves = HandMoves(ways)
    best = goal.measured(hand)
    for number, _, _ in numbers_behind(moves, hand):
        measured = goal.measured(moves.told(number))
        if measured > best:
            best = measured
    return best


def searched(ways, hand, goal):
    """As few indexes of moves as possible with a good hand behind them, or None; and the hands that were not good."""
    moves = HandMoves(ways)
    ahead = {}
    hands = []
    for number, before, index in numbers_behind(moves, hand):
        ahead[number] = (before, index)
        behind = moves.told(number)
        if goal(behind):
            return (way_to(ahead, number), hands)
        hands.append(behind)
    return (None, hands)


def way_to(ahead, number):
    """The indexes of the moves that lead to the hand with a number."""
    indexes = []
    before, index = ahead[number]
    while before is not None:
        indexes.append(index)
        before, index = ahead[before]
    return indexes[::-1]


def fewest(ways, hand, goal):
    """As few indexes of moves as possible with a good hand behind them, or None."""
    check_told(ways, hand, goal)
    return searched(ways, hand, goal)[0]
