"""Mends: which changes of a book bar a lift, and which wishes quarrel."""

from liftedladders.books import Book, MOST_RATING, RESULTS, is_result
from liftedladders.errors import BadBook, BadChoice, BadMenu, BadWish, TooMany
from liftedladders.numbers import ascends, is_above, is_fraction, is_integer
from liftedladders.reaching import reached
from liftedladders.shares import columns_of
from liftedladders.simplex import Simplex
from liftedladders.ways import ways_of

MOST_CHANGES = 6
MOST_WISHES = 6
# The changes of one part by one value.
SINGLE = ("low", "high", "times", "bonus")


def has_change_form(book, value):
    """Whether any value has the form of a change of the book, whatever it puts in."""
    if not isinstance(value, tuple) or len(value) == 0 or not isinstance(value[0], str):
        return False
    if value[0] == "entry":
        return len(value) == 4 and is_integer(value[1], 0, len(book.table) - 1) and is_result(value[2])
    return len(value) == 3 if value[0] == "fresh" else value[0] in SINGLE and len(value) == 2


def table_with(table, index, result, entry):
    """The table with another entry for a result in one row."""
    at = 1 + RESULTS.index(result)
    row = table[index]
    return table[:index] + (row[:at] + (entry,) + row[at + 1:],) + table[index + 1:]


def behind_change(book, change):
    """The book behind a change."""
    if change[0] == "entry":
        return book.changed("table", table_with(book.table, change[1], change[2], change[3]))
    if change[0] == "fresh":
        return Book(book.low, book.high, book.table, fresh=change[1], times=change[2], bonus=book.bonus)
    return book.changed(change[0], change[1])


def book_behind(book, changes):
    """The book behind some changes, made in order; None if one of them gives none."""
    try:
        for change in changes:
            book = behind_change(book, change)
    except (BadBook, TooMany):
        return None
    return book


def is_change(book, value):
    """Whether any value is a change that gives a book."""
    return has_change_form(book, value) and book_behind(book, [value]) is not None


def check_menu(book, menu):
    """Raises BadMenu for any value that is no menu."""
    if not isinstance(menu, (list, tuple)) or not 1 <= len(menu) <= MOST_CHANGES:
        raise BadMenu(None)
    for index, value in enumerate(menu):
        if not is_change(book, value) or value in menu[:index]:
            raise BadMenu(index)


def mended(book, menu, choice):
    """The book of a choice."""
    check_menu(book, menu)
    if not isinstance(choice, tuple) or not all([is_integer(index, 0, len(menu) - 1) for index in choice]):
        raise BadChoice(choice)
    if not ascends(choice):
        raise BadChoice(choice)
    behind = book_behind(book, [menu[index] for index in choice])
    if behind is None:
        raise BadChoice(choice)
    return behind


def won_by(book, place, other):
    """The place of one who wins against another, who may be at a place that the book has not."""
    if other not in book:
        return place
    if other[0] > place[0]:
        behind = book.game(other, place, "lower")
        return place if behind is None else behind[1]
    behind = book.game(place, other, "upper")
    return place if behind is None else behind[0]


def rises(book, rating, others):
    """The rating behind winning against others, one behind another, of a newcomer with a rating."""
    place = book.start(rating)
    for other in others:
        place = won_by(book, place, other)
    return place[0]


def is_wish(book, value):
    """Whether any value is a wish, where the book without changes is told."""
    if not isinstance(value, tuple) or len(value) == 0 or not isinstance(value[0], str):
        return False
    if value[0] in ("none", "even"):
        return len(value) == 1
    if value[0] not in ("bar", "rise") or len(value) != 4:
        return False
    if not all([is_integer(rating, 0, MOST_RATING) for rating in value[1:3]]):
        return False
    if value[0] == "bar":
        return is_fraction(value[3])
    return isinstance(value[3], tuple) and all([place in book for place in value[3]])


def check_wishes(book, wishes):
    """Raises BadWish for any value that is no list of one to six wishes."""
    if not isinstance(wishes, (list, tuple)) or not 1 <= len(wishes) <= MOST_WISHES:
        raise BadWish(None)
    for index, wish in enumerate(wishes):
        if not is_wish(book, wish):
            raise BadWish(index)


class Judge:
    """Which wishes hold for one book; what takes long is found once, and only if it is asked for."""

    def __init__(self, book):
        self._book = book
        self._ways = None
        self._points = None
        self._columns = {}
        self._shares = {}

    def holds(self, wish):
        """Whether a wish holds."""
        if wish[0] == "bar":
            return self._bars(wish[1], wish[2], wish[3])
        if wish[0] == "rise":
            _, rating, target, others = wish
            return not self._has(rating) or rises(self._book, rating, others) >= target
        if self._points is None:
            self._points = points_made(self._all_ways())
        least, most = self._points
        return most <= 0 and (wish[0] == "none" or least >= 0)

    def _has(self, rating):
        return is_integer(rating, self._book.low, self._book.high)

    def _all_ways(self):
        if self._ways is None:
            self._ways = ways_of(self._book)
        return self._ways

    def _bars(self, rating, target, share):
        """Whether newcomers with a rating cannot lift a greater share than this one to a target."""
        # All shares are from 0 to 1.
        if not self._has(rating) or share[0] >= share[1]:
            return True
        if share[0] < 0 or rating >= target:
            return False
        if (rating, target) not in self._shares:
            self._shares[(rating, target)] = self._greatest_share(rating, target)
        return not is_above(self._shares[(rating, target)], share)

    def _greatest_share(self, rating, target):
        """The greatest share of newcomers with a rating that can be lifted to ratings of at least a target."""
        ways = self._all_ways()
        start = self._book.start(rating)
        places = reached(ways, start)
        key = tuple(places)
        if key not in self._columns:
            self._columns[key] = columns_of(ways, places)
        rows, first = self._columns[key]
        return Simplex([1 if place[0] >= target else 0 for place in places], list(first), rows[start]).optimum()


def points_made(ways):
    """The least and the greatest number of points that a move of some ways makes, and 0 beside them."""
    least, most = 0, 0
    for ins, _, outs in ways.moves():
        points = sum([place[0] for place in outs]) - sum([place[0] for place in ins])
        if points < least:
            least = points
        if points > most:
            most = points
    return (least, most)


def meets(book, wish):
    """Whether a wish holds for a book."""
    if not is_wish(book, wish):
        raise BadWish(0)
    return Judge(book).holds(wish)


def by_length(tuples):
    """The list of some unlike tuples by length, then ascending."""
    return [told for _, told in sorted(set([(len(told), told) for told in tuples]))]


def subsets(many):
    """The list of all ascending tuples of indexes below a number, by length, then ascending."""
    found = [()]
    for index in range(many):
        found = found + [told + (index,) for told in found]
    return by_length(found)


def within(one, other):
    """Whether all of one tuple is in another one."""
    return all([part in other for part in one])


def judges(book, menu):
    """The list of the tuples (choice, Judge of its book); choices with equal books have one Judge."""
    known = {}
    told = []
    for choice in subsets(len(menu)):
        behind = book_behind(book, [menu[index] for index in choice])
        if behind is not None:
            key = (behind.low, behind.high, behind.table, behind.fresh, behind.times, behind.bonus)
            if key not in known:
                known[key] = Judge(behind)
            told.append((choice, known[key]))
    return told


def soonest(wishes):
    """The list of the tuples (index, wish) with those first that are told soonest."""
    told = list(enumerate(wishes))
    first = [entry for entry in told if entry[1][0] == "rise"]
    last = [entry for entry in told if entry[1][0] == "bar"]
    return first + [entry for entry in told if entry[1][0] in ("none", "even")] + last


def check_asked(book, menu, wishes):
    """Raises the errors of a menu, then of wishes."""
    check_menu(book, menu)
    check_wishes(book, wishes)


def least_mends(book, menu, wishes):
    """All choices that meet all wishes, and of which no proper part does."""
    check_asked(book, menu, wishes)
    row = soonest(wishes)
    least = []
    for choice, judge in judges(book, menu):
        if any([within(part, choice) for part in list(least)]):
            continue
        met = True
        for _, wish in row:
            if not judge.holds(wish):
                met = False
                break
        if met:
            least.append(choice)
    return least


def met_beyond(judge, row, known):
    """The ascending tuple of the wishes that a book meets; None as soon as a known one has all that are left."""
    left = sorted(set([index for index, _ in row]))
    for index, wish in row:
        if any([within(left, other) for other in known]):
            return None
        if not judge.holds(wish):
            left.remove(index)
    return tuple(left)


def met_together(book, menu, wishes):
    """Tuples of indexes of wishes that some choice meets; all others that one meets are parts of these."""
    row = soonest(wishes)
    found = []
    for _, judge in judges(book, menu):
        met = met_beyond(judge, row, list(found))
        if met is not None:
            found.append(met)
    return found


def greatest_kept(book, menu, wishes):
    """All tuples of indexes of wishes that some choice meets together, no proper parts of others."""
    check_asked(book, menu, wishes)
    found = met_together(book, menu, wishes)
    return by_length([met for met in found if not any([met != other and within(met, other) for other in found])])


def quarrels(book, menu, wishes):
    """The pairs of indexes of wishes that no choice meets together."""
    check_asked(book, menu, wishes)
    found = met_together(book, menu, wishes)
    return [pair for pair in subsets(len(wishes)) if len(pair) == 2 and not any([within(pair, met) for met in found])]
