"""Checkers of batches and prices, whoever wrote them."""

from liftedladders.numbers import added, fraction, is_above, is_fraction
from liftedladders.reaching import check_known, reached
from liftedladders.shares import read_worths, rest_behind
from liftedladders.ways import is_place


def mean_of_rest(rest, worths):
    """The sum of the rests times the worths."""
    mean = (0, 1)
    for place in rest:
        over, under = rest[place]
        mean = added(mean, fraction(over * worths[place], under))
    return mean


def lets_batch(ways, start, worths, mean, value):
    """Whether any value is a batch with at least this mean."""
    check_known(ways, start)
    told = read_worths(ways, worths)
    rest = rest_behind(ways, start, value)
    return rest is not None and not is_above(mean, mean_of_rest(rest, told))


def has_price_form(value, places):
    """Whether any value is a dict from just these places to fractions."""
    if not isinstance(value, dict) or len(value) != len(places):
        return False
    known = {place: True for place in places}
    # A key such as (True, 0) is equal to (1, 0) for Python, but it is no place.
    return all([is_place(key) and key in known and is_fraction(value[key]) for key in value])


def together(prices, places):
    """The sum of the prices of some places, each as often as it stands there."""
    paid = (0, 1)
    for place in places:
        paid = added(paid, prices[place])
    return paid


def is_price(ways, start, worths, value):
    """Whether any value is a price."""
    places = reached(ways, start)
    if not has_price_form(value, places):
        return False
    if any([is_above((worths[place], 1), value[place]) for place in places]):
        return False
    moves = ways.moves()
    for index in ways.within(places):
        ins, _, outs = moves[index]
        if is_above(together(value, outs), together(value, ins)):
            return False
    return True


def lets_price(ways, start, worths, mean, value):
    """Whether any value is a price by which the greatest mean worth is at most this."""
    check_known(ways, start)
    told = read_worths(ways, worths)
    return is_price(ways, start, told, value) and not is_above(value[start], mean)
