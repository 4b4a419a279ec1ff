"""What one friend alone reaches against honest ones, and what friends reach together beyond that."""

from liftedladders.errors import BadGames, BadHonest
from liftedladders.numbers import ascends, is_integer
from liftedladders.reaching import check_known

MOST_GAMES = 999


def read_honest(ways, start, honest):
    """The places of the honest ones, behind the errors of the start and of these."""
    check_known(ways, start)
    if not isinstance(honest, (list, tuple)):
        raise BadHonest(None)
    for index, place in enumerate(honest):
        if place not in ways:
            raise BadHonest(index)
    return {place: True for place in honest}


def steps_from(ways, known):
    """For each place what one alone at it can do: the list of the tuples (index, at, out), by the indexes."""
    steps = {place: [] for place in ways.places()}
    for index, (ins, _, outs) in enumerate(ways.moves()):
        others = [at for at, place in enumerate(ins) if place not in known]
        # Where no honest one is, the friend must be; of two such places one stays empty.
        if len(others) < 2:
            seats = others if others else list(range(len(ins)))
            for at in seats:
                steps[ins[at]].append((index, at, outs[at]))
    return steps


def runs_from(ways, start, known):
    """The dict from each lone place to a lone run of as few steps as possible, by these numbers."""
    steps = steps_from(ways, known)
    runs = {start: []}
    row = [start]
    done = 0
    while done < len(row):
        place = row[done]
        for index, at, out in steps[place]:
            if out not in runs:
                runs[out] = runs[place] + [(index, at)]
                row.append(out)
        done += 1
    return runs


def lone(ways, start, honest):
    """The ascending list of the lone places."""
    known = read_honest(ways, start, honest)
    return sorted(set(runs_from(ways, start, known)))


def joint(ways, start, honest):
    """The ascending list of the joint places."""
    known = read_honest(ways, start, honest)
    moves = ways.moves()
    there = {start: True}
    before = 0
    while before < len(there):
        before = len(there)
        for ins, _, outs in moves:
            if all([place in there or place in known for place in ins]):
                for place, out in zip(ins, outs):
                    if place in there:
                        there[out] = True
    return sorted(set(there))


def lifted(ways, start, honest):
    """The ascending list of the lifted places."""
    alone = lone(ways, start, honest)
    return [place for place in joint(ways, start, honest) if place not in alone]


def lone_within(ways, start, honest, games):
    """The ascending list of the places to which one can come alone by at most so many moves."""
    known = read_honest(ways, start, honest)
    if not is_integer(games, 0, MOST_GAMES):
        raise BadGames(games)
    runs = runs_from(ways, start, known)
    return [place for place in sorted(set(runs)) if len(runs[place]) <= games]


def lone_run(ways, start, honest, place):
    """A lone run to a place of as few steps as possible, or None."""
    known = read_honest(ways, start, honest)
    check_known(ways, place)
    return runs_from(ways, start, known).get(place)


def lone_paper(ways, start, honest, place):
    """A lone run to a place, or places that show that there is none."""
    run = lone_run(ways, start, honest, place)
    if run is not None:
        return ("run", run)
    return ("never", lone(ways, start, honest))


def is_lone_run(ways, known, start, place, value):
    """Whether any value is a lone run to a place."""
    if not isinstance(value, list):
        return False
    moves = ways.moves()
    here = start
    for entry in value:
        if not isinstance(entry, tuple) or len(entry) != 2:
            return False
        index, at = entry
        if not is_integer(index, 0, len(moves) - 1):
            return False
        ins, _, outs = moves[index]
        if not is_integer(at, 0, len(ins) - 1) or ins[at] != here:
            return False
        if not all([friend in known for friend in ins[:at] + ins[at + 1:]]):
            return False
        here = outs[at]
    return here == place


def is_lone_never(ways, known, start, place, value):
    """Whether any value is an ascending list of places, the start but not the place among them, that no step leaves."""
    if not isinstance(value, list) or not all([entry in ways for entry in value]):
        return False
    if not ascends(value) or start not in value or place in value:
        return False
    steps = steps_from(ways, known)
    return all([out in value for entry in value for _, _, out in steps[entry]])


def lets_lone(ways, start, honest, place, value):
    """Whether any value is a paper of a place."""
    known = read_honest(ways, start, honest)
    check_known(ways, place)
    if not isinstance(value, tuple) or len(value) != 2 or not isinstance(value[0], str):
        return False
    if value[0] == "run":
        return is_lone_run(ways, known, start, place, value[1])
    return value[0] == "never" and is_lone_never(ways, known, start, place, value[1])
