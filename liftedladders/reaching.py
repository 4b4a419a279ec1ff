"""Which places friends who begin at a start reach, with climbs and closed lists that show it."""

from liftedladders.errors import TooMany, UnknownPlace
from liftedladders.numbers import is_integer

MOST_MADE = 20000


def check_known(ways, place):
    """Raises UnknownPlace for any value that is no place of the ways."""
    if place not in ways:
        raise UnknownPlace(place)


def least_of(costs):
    """The first place with the least number, of a dict that is not empty."""
    least = None
    for place in costs:
        if least is None or costs[place] < costs[least]:
            least = place
    return least


def cheapest(ways, start):
    """For each reached place the fewest friends of a climb to it and the index of its last move.

    The places come by these numbers, so the ins of a move always come ahead of what it reaches: a move
    needs at least as many friends as each of its ins.
    """
    moves = ways.moves()
    missing = [len(set(move[0])) for move in moves]
    found = {}
    costs = {start: 1}
    by = {start: None}
    while costs:
        place = least_of(costs)
        found[place] = (costs[place], by[place])
        del costs[place]
        for index, move in enumerate(moves):
            if place not in move[0]:
                continue
            missing[index] -= 1
            if missing[index] > 0:
                continue
            need = sum([found[friend][0] for friend in move[0]])
            for out in move[2]:
                if out not in found and (out not in costs or need < costs[out]):
                    costs[out] = need
                    by[out] = index
    return found


def reached(ways, start):
    """The ascending list of the reached places."""
    check_known(ways, start)
    return sorted(set(cheapest(ways, start)))


def climb(ways, start, place):
    """A climb to a place with as few friends as possible, or None."""
    check_known(ways, start)
    check_known(ways, place)
    found = cheapest(ways, start)
    if place not in found:
        return None
    needed = {place: True}
    tuples = []
    for at in reversed(list(found)):
        if at in needed and at != start:
            index = found[at][1]
            tuples.append((at, index))
            for friend in ways[index][0]:
                needed[friend] = True
    return tuples[::-1]


def is_climb(ways, start, place, value):
    """Whether any value is a climb to a place."""
    check_known(ways, start)
    check_known(ways, place)
    if not isinstance(value, list):
        return False
    ahead = {start: True}
    last = start
    for entry in value:
        if not isinstance(entry, tuple) or len(entry) != 2:
            return False
        last, index = entry
        if last not in ways or not is_integer(index, 0, len(ways) - 1) or last not in ways[index][2]:
            return False
        if not all([friend in ahead for friend in ways[index][0]]):
            return False
        ahead[last] = True
    return last == place


def friends_of(ways, start, climb):
    """The number of friends of a climb."""
    check_known(ways, start)
    needs = {}
    friends = 1
    for place, index in climb:
        friends = sum([1 if friend == start else needs[friend] for friend in ways[index][0]])
        needs[place] = friends
    return friends


def times_made(ways, start, climb):
    """For each tuple of a climb, how often its move is made so that the last one can be made once."""
    behind = {}
    sources = []
    for at, (place, index) in enumerate(climb):
        sources.append([behind[friend] for friend in ways[index][0] if friend != start])
        behind[place] = at
    times = [0 for _ in climb]
    if times:
        times[-1] = 1
    for at in reversed(range(len(climb))):
        for source in sources[at]:
            times[source] += times[at]
    return times


def climb_moves(ways, start, climb):
    """The moves of a climb, each as often as friends need it, one after the other."""
    check_known(ways, start)
    times = times_made(ways, start, climb)
    if sum(times) > MOST_MADE:
        raise TooMany(MOST_MADE)
    moves = []
    for at, (_, index) in enumerate(climb):
        for _ in range(times[at]):
            moves.append(ways[index])
    return moves


def is_closed(ways, start, place, value):
    """Whether any value is an ascending, closed list of places with the start and without the place."""
    check_known(ways, start)
    check_known(ways, place)
    if not isinstance(value, list) or not all([entry in ways for entry in value]):
        return False
    if not all([value[at - 1] < value[at] for at in range(1, len(value))]):
        return False
    if start not in value or place in value:
        return False
    return all([out in value for index in ways.within(value) for out in ways[index][2]])
