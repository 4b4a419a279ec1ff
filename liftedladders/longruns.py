"""Long runs of two without end, with papers that show them, and the checkers of these."""

from liftedladders.books import RESULTS, is_result
from liftedladders.numbers import added, fraction, is_above, is_fraction, is_integer, less

# Each game makes more points than this: two changes are together -18 or more.
BELOW_ALL = -19


def games_within(duel, difference, window):
    """The list of the tuples (result, difference behind, points) of the games that count and stay in a window."""
    games = []
    for result in RESULTS:
        behind = duel.step(difference, result)
        if behind is not None and behind[0] <= window:
            games.append((result, behind[0], behind[1]))
    return games


def rising(duel):
    """The list of the tuples (points, result) of the results of the last row by which the difference grows."""
    return [(entry[0] + entry[1], result) for entry, result in zip(duel.table[-1][1:], RESULTS)
            if entry is not None and entry[0] > entry[1]]


def leads_within(duel, first):
    """The dict from each difference that is reached within the window to a play of as few games as possible."""
    window = duel.window(first)
    leads = {first: []}
    row = [first]
    done = 0
    while done < len(row):
        difference = row[done]
        for result, behind, _ in games_within(duel, difference, window):
            if behind not in leads:
                leads[behind] = leads[difference] + [result]
                row.append(behind)
        done += 1
    return leads


def best_up(duel, leads):
    """The greatest points of going up for ever and the paper; BELOW_ALL and None if this cannot be."""
    border = duel.table[-1][0]
    high = [difference for difference in leads if difference >= border]
    best = BELOW_ALL
    paper = None
    for points, result in rising(duel):
        if high and points > best:
            best = points
            paper = ("up", leads[high[0]], result)
    return (best, paper)


def ring_through(came, difference, many):
    """The difference at which the ring begins that is met by going back from a difference, and its results."""
    for _ in range(many):
        difference = came[difference][0]
    before, result = came[difference]
    ring = [result]
    while before != difference:
        before, result = came[before]
        ring.append(result)
    return (difference, ring[::-1])


def gains_over(edges, first, many, mean):
    """What a play to each of many differences makes at most beyond a mean, times its under; and a better ring.

    If the ring is not None, some play has no most; the ring has a greater mean.
    """
    over, under = mean
    gains = {first: 0}
    came = {}
    for _ in range(many):
        last = None
        for difference, result, behind, points in edges:
            gain = gains[difference] + points * under - over
            if behind not in gains or gain > gains[behind]:
                gains[behind] = gain
                came[behind] = (difference, result)
                last = behind
        if last is None:
            return (gains, None)
    # Something grew in each of so many rounds, so it did not grow by plays without a ring alone.
    return (gains, ring_through(came, last, many))


def best_run(duel, first):
    """The long run, a paper of it and what plays make beyond it; the paper is None if there is none."""
    leads = leads_within(duel, first)
    window = duel.window(first)
    edges = [(difference, result, behind, points) for difference in leads
             for result, behind, points in games_within(duel, difference, window)]
    up, paper = best_up(duel, leads)
    mean = (up, 1)
    gains, better = gains_over(edges, first, len(leads), mean)
    while better is not None:
        difference, ring = better
        mean = fraction(played(duel, difference, ring)[1], len(ring))
        paper = ("ring", leads[difference], ring)
        gains, better = gains_over(edges, first, len(leads), mean)
    return (mean, paper, gains)


def long_run(duel, first):
    """The long run of a first difference, or None."""
    mean, paper, _ = best_run(duel, first)
    return None if paper is None else mean


def long_paper(duel, first):
    """A paper that shows that the long run is come to, or None."""
    return best_run(duel, first)[1]


def bound_paper(duel, first):
    """A paper that shows that the long run is not above what it is; None if there is none."""
    mean, paper, gains = best_run(duel, first)
    if paper is None:
        return None
    return ("bound", mean, {difference: fraction(-gains[difference], mean[1]) for difference in gains})


def played(duel, difference, value):
    """The tuple (difference, points) behind any value that is a play, None for any other one."""
    if not isinstance(value, list):
        return None
    points = 0
    for result in value:
        behind = duel.step(difference, result) if is_result(result) else None
        if behind is None:
            return None
        difference = behind[0]
        points += behind[1]
    return (difference, points)


def lets_long(duel, first, value):
    """The fraction that any value shows to be come to that is a paper of a ring or of going up, or None."""
    duel.window(first)
    if not isinstance(value, tuple) or len(value) != 3 or not isinstance(value[0], str):
        return None
    lead = played(duel, first, value[1])
    if lead is None:
        return None
    if value[0] == "ring":
        ring = played(duel, lead[0], value[2])
        if ring is None or len(value[2]) == 0 or ring[0] != lead[0]:
            return None
        return fraction(ring[1], len(value[2]))
    if value[0] == "up" and lead[0] >= duel.table[-1][0] and is_result(value[2]):
        for points, result in rising(duel):
            if result == value[2]:
                return (points, 1)
    return None


def has_bound_form(first, window, value):
    """Whether any value is a tuple of `bound`, a fraction and heights of differences in a window, of the first, too."""
    if not isinstance(value, tuple) or len(value) != 3:
        return False
    kind, most, heights = value
    if not isinstance(kind, str) or kind != "bound" or not is_fraction(most) or not isinstance(heights, dict):
        return False
    # A key such as True is equal to 1 for Python, but it is no difference.
    if not all([is_integer(key, 0, window) and is_fraction(heights[key]) for key in heights]):
        return False
    return first in heights


def lets_bound(duel, first, value):
    """Whether any value is a paper that the long run, if there is one, is at most a fraction."""
    window = duel.window(first)
    if not has_bound_form(first, window, value):
        return False
    _, most, heights = value
    for difference in heights:
        for _, behind, points in games_within(duel, difference, window):
            if behind not in heights:
                return False
            if is_above((points, 1), added(most, less(heights[difference], heights[behind]))):
                return False
    if any([difference >= duel.table[-1][0] for difference in heights]):
        return not any([is_above((points, 1), most) for points, _ in rising(duel)])
    return True
