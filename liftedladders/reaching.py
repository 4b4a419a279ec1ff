"""Which places friends who begin at a start reach, with climbs and closed lists that show it."""

from liftedladders.errors import TooMany, UnknownPlace
from liftedladders.numbers import ascends, is_integer
from liftedladders.ways import is_place

MOST_MADE = 20000


def check_known(ways, place):
    """Raises UnknownPlace for any value that is no place of the ways."""
    if place not in ways:
        raise UnknownPlace(place)


def least_of(costs):
    """The first place with the least number, of a dict that is not empty."""
    least = None
    for place in costs:
        if least is None or costs[place] < costs[least]:
            least = place
    return least


def asked_by(ways):
    """For each place the indexes of the moves that ask for friends there, each as often as it asks for one."""
    asked = {place: [] for place in ways.places()}
    for index, move in enumerate(ways.moves()):
        for place in move[0]:
            asked[place].append(index)
    return asked


def cheapest(ways, start):
    """For each reached place the fewest friends of a climb to it and the index of its last move.

    The places come by these numbers, so the ins of a move always come ahead of what it reaches: a move
    needs at least as many friends as each of its ins.
    """
    moves = ways.moves()
    missing = [len(move[0]) for move in moves]
    asked = asked_by(ways)
    found = {}
    costs = {start: 1}
    by = {start: None}
    while costs:
        place = least_of(costs)
        found[place] = (costs[place], by[place])
        del costs[place]
        for index in asked[place]:
            missing[index] -= 1
            if missing[index] > 0:
                continue
            ins, _, outs = moves[index]
            need = sum([found[friend][0] for friend in ins])
            for out in outs:
                if out not in found and (out not in costs or need < costs[out]):
                    costs[out] = need
                    by[out] = index
    return found


def reached(ways, start):
    """The ascending list of the reached places."""
    check_known(ways, start)
    return sorted(set(cheapest(ways, start)))


def climb(ways, start, place):
    """A climb to a place with as few friends as possible, or None."""
    check_known(ways, start)
    check_known(ways, place)
    found = cheapest(ways, start)
    if place not in found:
        return None
    needed = {place: True}
    tuples = []
    for at in reversed(list(found)):
        if at in needed and at != start:
            index = found[at][1]
            tuples.append((at, index))
            for friend in ways[index][0]:
                needed[friend] = True
    return tuples[::-1]


def is_climb(ways, start, place, value):
    """Whether any value is a climb to a place."""
    check_known(ways, start)
    check_known(ways, place)
    if not isinstance(value, list):
        return False
    moves = ways.moves()
    ahead = {start: True}
    # What can be made at one tuple can be made at all later ones, so it is looked at once.
    makeable = {}
    last = start
    for entry in value:
        if not isinstance(entry, tuple) or len(entry) != 2:
            return False
        last, index = entry
        if not is_integer(index, 0, len(moves) - 1) or not is_place(last) or last not in moves[index][2]:
            return False
        if index not in makeable:
            if not all([friend in ahead for friend in moves[index][0]]):
                return False
            makeable[index] = True
        ahead[last] = True
    return last == place


def friends_of(ways, start, climb):
    """The number of friends of a climb."""
    check_known(ways, start)
    moves = ways.moves()
    needs = {start: 1}
    friends = 1
    for place, index in climb:
        friends = sum([needs[friend] for friend in moves[index][0]])
        if place != start:
            needs[place] = friends
    return friends


def times_made(ways, start, climb):
    """For each tuple of a climb, how often its move is made so that the last one can be made once."""
    moves = ways.moves()
    behind = {}
    sources = []
    for at, (place, index) in enumerate(climb):
        sources.append([behind[friend] for friend in moves[index][0] if friend in behind])
        if place != start:
            behind[place] = at
    times = [0 for _ in climb]
    if times:
        times[-1] = 1
    for at in reversed(range(len(climb))):
        for source in sources[at]:
            times[source] += times[at]
    return times


def written_out(ways, made):
    """The list of the moves (index, times), one after the other."""
    moves = ways.moves()
    written = []
    for index, times in made:
        written.extend([moves[index]] * times)
    return written


def climb_moves(ways, start, climb):
    """The moves of a climb, each as often as friends need it, one after the other."""
    check_known(ways, start)
    times = times_made(ways, start, climb)
    if sum(times) > MOST_MADE:
        raise TooMany(MOST_MADE)
    return written_out(ways, [(entry[1], many) for entry, many in zip(climb, times)])


def is_closed(ways, start, place, value):
    """Whether any value is an ascending, closed list of places with the start and without the place."""
    check_known(ways, start)
    check_known(ways, place)
    if not isinstance(value, list) or not all([entry in ways for entry in value]):
        return False
    if not ascends(value) or start not in value or place in value:
        return False
    moves = ways.moves()
    there = {entry: True for entry in value}
    return all([out in there for index in ways.within(value) for out in moves[index][2]])
