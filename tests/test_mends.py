"""Promises: changes, choices and wishes, least mends, greatest kept wishes and quarrels; their errors in order."""

from fractions import Fraction
from itertools import combinations
import random
import time
import unittest

from liftedladders.books import Book
from liftedladders.errors import BadChoice, BadMenu, BadPlace, BadWish
from liftedladders.mends import (greatest_kept, is_change, least_mends, meets, mended, quarrels, rises)
from liftedladders.numbers import fraction
from liftedladders.shares import share_at
from liftedladders.ways import ways_of
from tests.support import Case, EqualToAll, ODD, simple_book, some_book

TABLE = [(0, (1, -1), (0, 0), (-1, 1)), (2, (1, 0), None, (-2, 2))]
RESULTS = ("upper", "draw", "lower")


def told_change(book, change):
    """The book behind a change, part by part; the class refuses what gives none."""
    parts = {"low": book.low, "high": book.high, "table": list(book.table)}
    more = {"fresh": book.fresh, "times": book.times, "bonus": book.bonus}
    if change[0] == "entry":
        row = list(parts["table"][change[1]])
        row[1 + RESULTS.index(change[2])] = change[3]
        parts["table"][change[1]] = tuple(row)
    elif change[0] == "fresh":
        more["fresh"], more["times"] = change[1:]
    elif change[0] in parts:
        parts[change[0]] = change[1]
    else:
        more[change[0]] = change[1]
    return Book(**parts, **more)


def told_book(book, menu, choice):
    try:
        for index in choice:
            book = told_change(book, menu[index])
    except (ValueError, OverflowError):
        return None
    return book


def told_rises(book, rating, others):
    place = (rating, book.fresh)
    for other in others:
        if other in book.places():
            if place[0] >= other[0]:
                behind = book.game(place, other, "upper")
                place = place if behind is None else behind[0]
            else:
                behind = book.game(other, place, "lower")
                place = place if behind is None else behind[1]
    return place[0]


def told_meets(book, wish):
    """Whether a wish holds, by the definition."""
    if wish[0] in ("none", "even"):
        points = [sum(out[0] for out in outs) - sum(place[0] for place in ins) for ins, _, outs in ways_of(book).moves()]
        return all(made <= 0 if wish[0] == "none" else made == 0 for made in points)
    rating, target = wish[1:3]
    if not book.low <= rating <= book.high:
        return True
    if wish[0] == "rise":
        return told_rises(book, rating, wish[3]) >= target
    share = share_at(ways_of(book), (rating, book.fresh), [place for place in book.places() if place[0] >= target])
    return Fraction(*share) <= Fraction(*wish[3])


def told_choices(book, menu):
    """The dict from all choices that give a book to this."""
    told = {}
    for many in range(len(menu) + 1):
        for choice in combinations(range(len(menu)), many):
            behind = told_book(book, menu, choice)
            if behind is not None:
                told[choice] = behind
    return told


def told_met(book, menu, wishes):
    """The dict from all choices to the sets of the wishes that they meet."""
    return {choice: {index for index, wish in enumerate(wishes) if told_meets(behind, wish)}
            for choice, behind in told_choices(book, menu).items()}


def told_least(met, wishes):
    good = [choice for choice, told in met.items() if len(told) == len(wishes)]
    return sorted([choice for choice in good if not any(set(other) < set(choice) for other in good)],
                  key=lambda choice: (len(choice), choice))


def told_kept(met):
    kept = {tuple(sorted(told)) for told in met.values()}
    return sorted([one for one in kept if not any(set(one) < set(other) for other in kept)],
                  key=lambda one: (len(one), one))


def told_quarrels(met, wishes):
    return [pair for pair in combinations(range(len(wishes)), 2) if not any(set(pair) <= told for told in met.values())]


def some_change(chance, book):
    kind = chance.choice(["low", "high", "times", "bonus", "fresh", "entry", "entry", "entry", "entry"])
    if kind == "entry":
        entry = None if chance.random() < 0.3 else (chance.randint(-3, 3), chance.randint(-3, 3))
        return (kind, chance.randrange(len(book.table)), chance.choice(RESULTS), entry)
    if kind == "fresh":
        return (kind, chance.randint(0, 2), chance.randint(1, 3))
    return (kind, chance.randint(0, {"low": 4, "high": 9, "times": 3, "bonus": 3}[kind]))


def some_menu(chance, book, most=6):
    menu = []
    while len(menu) < chance.randint(1, most):
        change = some_change(chance, book)
        if change not in menu and told_book(book, [change], (0,)) is not None:
            menu.append(change)
    return menu


def some_wish(chance, book):
    kind = chance.choice(["bar", "bar", "rise", "rise", "none", "even"])
    if kind in ("none", "even"):
        return (kind,)
    rating, target = chance.randint(0, 6), chance.randint(0, 8)
    if kind == "bar":
        under = chance.randint(1, 9)
        return (kind, rating, target, fraction(chance.randint(-1, under), under))
    return (kind, rating, target, tuple(chance.choice(book.places()) for _ in range(chance.randint(0, 4))))


def some_quarrel(chance):
    """A small book with few games, a menu of entries and wishes that are often at odds."""
    entries = [None, (1, -1), (0, 0), (1, 0), (0, -1)]
    low = chance.randint(0, 2)
    rows = [(border, chance.choice(entries), None, chance.choice([None, None, (0, 1), (-1, 1)]))
            for border in range(chance.randint(1, 2))]
    book = Book(low, low + chance.randint(1, 2), rows)
    menu = []
    while len(menu) < chance.randint(2, 4):
        change = ("entry", chance.randrange(len(rows)), chance.choice(["upper", "upper", "lower"]), chance.choice(entries))
        if change not in menu:
            menu.append(change)
    wishes = []
    for _ in range(chance.randint(2, 4)):
        rating = chance.randint(book.low, book.high)
        others = tuple(chance.choice(book.places()) for _ in range(chance.randint(0, 3)))
        wishes.append(chance.choice([("none",), ("even",), ("bar", rating, book.high, chance.choice([(0, 1), (1, 2)])),
                                     ("rise", book.low, chance.randint(book.low, book.low + 1), others)]))
    return book, menu, wishes


class ChangesTest(Case):
    def test_changes(self):
        book = Book(1, 4, TABLE)
        for good in (("low", 0), ("low", 1), ("low", 4), ("high", 1), ("high", 23), ("times", 1), ("bonus", 0), ("bonus", 5),
                     ("fresh", 0, 1), ("fresh", 2, 1), ("fresh", 1, 3), ("entry", 0, "upper", (9, -9)),
                     ("entry", 1, "draw", (0, 0)), ("entry", 1, "lower", None), ("entry", 0, "draw", (0, 0))):
            self.assert_truth(is_change(book, good), True)
            self.assert_truth(is_change(value=good, book=book), True)
            self.assertEqual(mended(book, [good], (0,)), told_change(book, good))
            self.assert_truth(is_change(book, list(good)), False)
            self.assert_truth(is_change(book, good + (1,)), False)
            self.assert_truth(is_change(book, good[:-1]), False)
        for bad in ODD + (("low", 5), ("low", -1), ("low", True), ("low", None), ("high", 0), ("high", 24), ("times", 2),
                          ("times", 0), ("bonus", 6), ("bonus", -1), ("fresh", 1), ("fresh", 0, 2), ("fresh", 3, 1),
                          ("fresh", 1, 4), ("fresh", True, 1), ("entry", 2, "upper", None), ("entry", -1, "upper", None),
                          ("entry", True, "upper", None), ("entry", 0, "one", None), ("entry", 0, None, None),
                          ("entry", 0, "upper", (10, 0)), ("entry", 0, "upper", [1, 1]), ("entry", 0, "upper", (1,)),
                          ("entry", 0, "upper", (1, False)), ("entry", 0, "upper", 0), ("table", TABLE), ("Low", 1),
                          ("low",), (None, 1), (["low"], 1), (EqualToAll(), 1), (EqualToAll(), 0, "upper", None), ("low", EqualToAll()), EqualToAll(),
                          ("entry", EqualToAll(), "upper", None), ("entry", 0, EqualToAll(), None),
                          ("entry", 0, "upper", EqualToAll()), (), ("fresh",), ("entry",), ("low", "1")):
            self.assert_truth(is_change(book, bad), False)

    def test_changes_that_hang_on_the_book(self):
        fresh, bonus = Book(0, 5, TABLE, fresh=1, times=2), Book(0, 5, TABLE, bonus=2)
        for book, change, told in ((fresh, ("times", 3), True), (fresh, ("bonus", 0), True), (fresh, ("bonus", 1), False),
                                   (fresh, ("fresh", 0, 1), True), (fresh, ("fresh", 0, 2), False),
                                   (bonus, ("fresh", 0, 1), True), (bonus, ("fresh", 1, 1), False),
                                   (bonus, ("times", 1), True), (bonus, ("high", 11), True), (bonus, ("high", 12), False),
                                   (fresh, ("high", 11), True), (fresh, ("high", 12), False),
                                   (Book(0, 8, TABLE), ("fresh", 2, 1), False), (Book(0, 7, TABLE), ("fresh", 2, 1), True),
                                   (Book(0, 12, TABLE), ("bonus", 1), False), (Book(0, 12, TABLE), ("bonus", 0), True)):
            self.assert_truth(is_change(book, change), told)

    def test_mended(self):
        book = Book(0, 4, TABLE)
        menu = [("high", 6), ("entry", 1, "draw", (2, -2)), ("low", 1), ("fresh", 1, 2)]
        self.assertEqual(mended(book, menu, ()), book)
        self.assertEqual(mended(choice=(0, 1, 2, 3), menu=tuple(menu), book=book),
                         Book(1, 6, [TABLE[0], (2, (1, 0), (2, -2), (-2, 2))], fresh=1, times=2))
        self.assertEqual(mended(book, [("entry", 0, "upper", (5, 5)), ("entry", 0, "upper", None)], (0, 1)),
                         Book(0, 4, [(0, None, (0, 0), (-1, 1)), TABLE[1]]))
        # Made in order: ahead of a greater high this low gives no book.
        high_first = [("high", 9), ("low", 4), ("high", 4), ("low", 3)]
        self.assertEqual(mended(book, high_first, (0, 1, 2)), Book(4, 4, TABLE))
        self.refuses(BadChoice, "choice", (1, 2), mended, Book(0, 6, TABLE), [("high", 6), ("low", 5), ("high", 4)], (1, 2))
        self.assertEqual(book, Book(0, 4, TABLE))

    def test_a_book_is_given_on_the_way_too(self):
        # Both together give a book, but the first one alone gives none behind the second.
        book = Book(0, 11, TABLE)
        menu = [("bonus", 1), ("high", 20), ("fresh", 1, 2), ("bonus", 0)]
        for choice in ((0, 1), (0, 2), (0, 2, 3), (1, 2), (0, 1, 3)):
            self.refuses(BadChoice, "choice", choice, mended, book, menu, choice)
        for choice in ((0,), (1,), (2,), (0, 3), (1, 3), (2, 3)):
            self.assertEqual(mended(book, menu, choice), told_book(book, menu, choice))
        self.assert_same(least_mends(book, menu, [("rise", 23, 0, ())]), [()])

    def test_refused_menus(self):
        book = simple_book()
        good = [("high", 3), ("high", 4), ("low", 1), ("low", 2), ("bonus", 1), ("bonus", 2), ("bonus", 3)]
        calls = (lambda menu: mended(book, menu, None), lambda menu: least_mends(book, menu, None),
                 lambda menu: greatest_kept(book, menu, None), lambda menu: quarrels(book, menu, None))
        for call in calls:
            for odd in (None, [], (), {}, {("high", 3): 1}, {("high", 3)}, "", 0, True, object(), good, tuple(good),
                        [None] * 7, EqualToAll()):
                self.refuses(BadMenu, "index", None, call, odd)
            for odd in ODD + (("low", 3), ("high", 3, 3), ["low", 1], ("entry", 1, "upper", None), EqualToAll()):
                for index in range(3):
                    self.refuses(BadMenu, "index", index, call, good[:index] + [odd, None])
                    self.refuses(BadMenu, "index", index, call, tuple(good[:index]) + (odd, None))
            for menu, index in (((0, 0), 1), ((0, 1, 0), 2), ((0, 1, 2, 2, 1), 3)):
                self.refuses(BadMenu, "index", index, call, [good[at] for at in menu] + [None] * (menu == (0, 0)))

    def test_refused_choices(self):
        book, menu = simple_book(), [("high", 3), ("high", 4), ("low", 2)]
        for odd in ODD[:6] + ODD[7:] + ([], [0], (1, 0), (0, 0), (3,), (-1,), (0, True), (False,), ("0",), (None,),
                                        (0, 1, 2, 2), EqualToAll(), (EqualToAll(),), {0: 1}, range(2)):
            if odd != () or not isinstance(odd, tuple):
                self.refuses_itself(BadChoice, "choice", odd, mended, book, menu, odd)
        self.refuses(BadChoice, "choice", (0, 1), mended, book, [("high", 1), ("low", 2)], (0, 1))


class RisesTest(Case):
    def test_told(self):
        book = Book(0, 5, TABLE)
        at = [(rating, 0) for rating in range(6)]
        for rating, others, told in ((2, (), 2), (2, (at[2],), 3), (2, (at[4],), 4), (2, (at[3],), 3), (2, (at[0],), 3),
                                     (2, (at[4], at[4]), 5), (2, (at[4], at[0]), 5), (5, (at[0], at[5]), 5),
                                     (2, ((9, 0), at[4], (4, 1), (7,), (1, 2, 3)), 4), (0, (at[5],) * 3, 5)):
            self.assert_same(rises(book, rating, others), told)
            self.assert_same(rises(others=others, rating=rating, book=book), told)

    def test_of_equal_ratings_the_newcomer_is_the_upper_one(self):
        book = Book(0, 9, [(0, (4, 0), (0, 0), (0, 1))])
        self.assert_same(rises(book, 3, ((3, 0),)), 7)
        self.assert_same(rises(book, 3, ((4, 0),)), 4)

    def test_games_that_do_not_count(self):
        book = Book(0, 9, [(0, None, (0, 0), (0, 1)), (1, (2, 0), (0, 0), None)])
        self.assert_same(rises(book, 3, ((3, 0), (4, 0), (2, 0), (9, 0))), 5)

    def test_phases(self):
        fresh = Book(0, 7, [(0, (1, -1), (0, 0), (-1, 1))], fresh=1, times=3)
        self.assert_same(rises(fresh, 1, ((0, 0),)), 4)
        self.assert_same(rises(fresh, 1, ((0, 0), (0, 1))), 5)
        self.assert_same(rises(fresh, 1, ((9, 0), (0, 2), (0, 0), (0, 1))), 5)
        bonus = Book(0, 11, [(0, (1, -1), (0, 0), (-1, 1)), (6, None, None, None)], bonus=3)
        self.assert_same(rises(bonus, 1, ((0, 0), (0, 0))), 6)
        # Neither a place that the book has not nor a game that does not count ends the row of wins.
        self.assert_same(rises(bonus, 1, ((0, 0), (11, 0), (0, 2), (2, 1))), 6)

    def test_many(self):
        chance = random.Random(151)
        for _ in range(400):
            book = some_book(chance)
            rating = chance.randint(book.low, book.high)
            others = tuple(chance.choice(book.places() + [(24, 0), (0, 3), (1,)]) for _ in range(chance.randint(0, 6)))
            self.assert_same(rises(book, rating, others), told_rises(book, rating, others))

    def test_refused(self):
        book = Book(2, 5, TABLE)
        for odd in ODD + (1, 6, -1, "3", (3, 0), EqualToAll()):
            self.refuses_itself(BadPlace, "place", odd, rises, book, odd, ())


class WishesTest(Case):
    def test_bars(self):
        # Of two friends at 0 one can be lifted to 1, while the other one stays; no further game counts.
        book = Book(0, 3, [(0, (1, 0), None, None), (1, None, None, None)])
        share = share_at(ways_of(book), (0, 0), [(1, 0), (2, 0), (3, 0)])
        over, under = share
        for wish, told in ((("bar", 0, 1, share), True), (("bar", 0, 1, fraction(10 * over - 1, 10 * under)), False),
                           (("bar", 0, 1, fraction(10 * over + 1, 10 * under)), True), (("bar", 0, 1, (1, 1)), True),
                           (("bar", 0, 0, (99, 100)), False), (("bar", 0, 0, (1, 1)), True), (("bar", 2, 1, (5, 2)), True),
                           (("bar", 2, 1, (0, 1)), False), (("bar", 3, 23, (0, 1)), True), (("bar", 3, 23, (-1, 9)), False),
                           (("bar", 4, 0, (0, 1)), True), (("bar", 4, 0, (-5, 1)), True), (("bar", 23, 0, (-1, 1)), True)):
            self.assert_truth(meets(book, wish), told)
            self.assert_truth(meets(wish=wish, book=book), told)

    def test_shares_between(self):
        # Two of three newcomers with rating 3 can be lifted to 4.
        book = Book(0, 4, [(0, None, None, (-1, 0)), (2, (1, -2), (0, 0), (-2, 2)), (3, (-2, 1), None, (-1, -2))],
                    fresh=1, times=2)
        self.assert_same(share_at(ways_of(book), (3, 1), [(4, 0), (4, 1)]), (2, 3))
        for share, told in (((2, 3), True), ((1999, 3000), False), ((2001, 3000), True), ((3, 5), False), ((0, 1), False),
                            ((-1, 1), False), ((999, 1000), True)):
            self.assert_truth(meets(book, ("bar", 3, 4, fraction(*share))), told)
        wishes = [("bar", 3, 4, (1, 2)), ("bar", 3, 4, (2, 3)), ("bar", 3, 4, (3, 4))]
        menu = [("entry", 0, "lower", None), ("high", 5), ("times", 3)]
        self.assert_same(greatest_kept(book, menu[1:2], wishes[:1]), told_kept(told_met(book, menu[1:2], wishes[:1])))
        self.assert_same(least_mends(book, menu, wishes[:1]), told_least(told_met(book, menu, wishes[:1]), wishes[:1]))
        self.assert_same(least_mends(book, menu, wishes[1:]), [()])
        self.assert_same(least_mends(book, menu, wishes)[:1], [(0,)])

    def test_rises(self):
        book = Book(1, 5, TABLE)
        for wish, told in ((("rise", 2, 3, ((2, 0),)), True), (("rise", 2, 4, ((2, 0),)), False),
                           (("rise", 2, 2, ()), True), (("rise", 2, 3, ()), False), (("rise", 0, 23, ()), True),
                           (("rise", 6, 23, ((2, 0),)), True), (("rise", 2, 4, ((4, 0),)), True)):
            self.assert_truth(meets(book, wish), told)

    def test_points(self):
        for table, none, even in (([(0, (1, -1), (0, 0), (-1, 1))], False, False), ([(0, None, None, None)], True, True),
                                  ([(0, (0, 0), None, (0, 0))], True, True), ([(0, (0, -1), None, None)], True, False),
                                  ([(0, (1, -2), (0, -1), (-2, 1))], False, False)):
            book = Book(0, 4, table)
            self.assert_truth(meets(book, ("none",)), none)
            self.assert_truth(meets(book, ("even",)), even)
        # Points are those behind floors and ceilings, of all places: at one rating alone there are none.
        for table in (TABLE, [(0, (9, 9), (-9, -9), (9, -9))]):
            self.assert_truth(meets(Book(3, 3, table), ("none",)), True)
            self.assert_truth(meets(Book(3, 3, table), ("even",)), True)
        bonus = Book(0, 11, [(0, (0, 0), (0, 0), (0, 0))], bonus=1)
        self.assert_truth(meets(bonus, ("none",)), False)

    def test_many(self):
        chance = random.Random(152)
        found = {}
        for _ in range(500):
            book = some_book(chance, 7)
            wish = some_wish(chance, book)
            told = told_meets(book, wish)
            self.assert_truth(meets(book, wish), told)
            found[(wish[0], told)] = found.get((wish[0], told), 0) + 1
        self.assertEqual(len(found), 8)

    def test_refused(self):
        book, menu = Book(0, 2, TABLE), [("high", 3)]
        odd_wishes = ODD + (("none", 1), ("even", None), ("None",), ("bars",), ("bars", 0, 1, (1, 2)), ("Rise", 0, 1, ()), ("bar",), ("rise",), ["none"],
                            ("bar", 0, 1), ("bar", 0, 1, (1, 2), 0), ("bar", -1, 1, (1, 2)), ("bar", 24, 1, (1, 2)),
                            ("bar", 0, -1, (1, 2)), ("bar", 0, 24, (1, 2)), ("bar", True, 1, (1, 2)), ("bar", 0, True, (1, 2)),
                            ("bar", 0, 1, (2, 4)), ("bar", 0, 1, 1), ("bar", 0, 1, [1, 2]), ("bar", 0, 1, (1, 0)),
                            ("bar", 0, 1, (1, -2)), ("bar", 0, 1, None), ("bar", None, 1, (1, 2)),
                            ("rise", 0, 1), ("rise", 0, 1, [(0, 0)]), ("rise", 0, 1, ((3, 0),)), ("rise", 0, 1, ((0, 1),)),
                            ("rise", 0, 1, ((0, 0), None)), ("rise", 0, 1, (0, 0)), ("rise", -1, 1, ()), ("rise", 24, 1, ()),
                            ("rise", 0, 24, ()), ("rise", 0, -1, ()), ("rise", False, 1, ()), ("rise", 0, 1, ((False, 0),)),
                            ("rise", 0, 1, (), ()), ("rise", 0, 1, None), (EqualToAll(),), EqualToAll(), (None,),
                            (EqualToAll(), 0, 1, (1, 2)), (["none"],), ("bar", 0, 1, EqualToAll()),
                            ("rise", 0, 1, EqualToAll()), ("rise", EqualToAll(), 1, ()))
        for odd in odd_wishes:
            self.refuses(BadWish, "index", 0, meets, book, odd)
            for call in (least_mends, greatest_kept, quarrels):
                for index in range(3):
                    told = [("none",), ("bar", 0, 1, (1, 2))][:index] + [odd, None]
                    self.refuses(BadWish, "index", index, call, book, menu, told)
                    self.refuses(BadWish, "index", index, call, book, tuple(menu), tuple(told))
        for call in (least_mends, greatest_kept, quarrels):
            for odd in (None, [], (), {}, {("none",): 1}, {("none",)}, "", 0, True, object(), [("none",)] * 7,
                        (("none",),) * 7, [None] * 7, EqualToAll()):
                self.refuses(BadWish, "index", None, call, book, menu, odd)

    def test_others_are_places_of_the_book_without_changes(self):
        book, menu = Book(0, 2, TABLE), [("high", 3), ("low", 1), ("bonus", 1)]
        for call in (least_mends, greatest_kept, quarrels):
            self.refuses(BadWish, "index", 0, call, book, menu, [("rise", 0, 1, ((3, 0),))])
            self.refuses(BadWish, "index", 0, call, book, menu, [("rise", 0, 1, ((0, 1),))])
        # With the low 1 the one at 0 is not there: nothing is won.
        self.assert_same(least_mends(book, menu, [("rise", 1, 2, ((0, 0),))]), [()])
        self.assert_same(greatest_kept(book, [("low", 1)], [("rise", 1, 2, ((0, 0),)), ("rise", 0, 2, ())]), [(0,), (1,)])


class ChoicesTest(Case):
    def same_as_told(self, book, menu, wishes):
        met = told_met(book, menu, wishes)
        least, kept, pairs = told_least(met, wishes), told_kept(met), told_quarrels(met, wishes)
        self.assert_same(least_mends(book, menu, wishes), least)
        self.assert_same(greatest_kept(wishes=wishes, menu=menu, book=book), kept)
        self.assert_same(quarrels(book, tuple(menu), tuple(wishes)), pairs)
        return (least, kept, pairs)

    def test_told(self):
        book = Book(0, 3, [(0, (1, 0), (0, 0), (0, 1))])
        menu = [("entry", 0, "upper", (1, -1)), ("entry", 0, "lower", (-1, 1)), ("entry", 0, "upper", None),
                ("entry", 0, "lower", None), ("low", 3)]
        # At floor and ceiling points are made or lost, so only no games at all, or games of one rating, are even.
        self.assert_same(self.same_as_told(book, menu, [("even",)])[0], [(4,), (2, 3)])
        self.assert_same(self.same_as_told(book, menu, [("even",), ("rise", 1, 2, ((1, 0),))]),
                         ([(4,)], [(0, 1)], []))
        self.assert_same(self.same_as_told(book, menu[:4], [("even",), ("rise", 1, 2, ((1, 0),))]),
                         ([], [(0,), (1,)], [(0, 1)]))

    def test_lists_by_length_then_ascending(self):
        book = Book(0, 1, [(0, (1, 0), (1, 0), None), (1, (0, 1), None, None)])
        menu = [("entry", 0, "draw", None), ("entry", 0, "upper", None), ("entry", 1, "upper", None), ("low", 1), ("high", 0)]
        least, _, _ = self.same_as_told(book, menu, [("bar", 0, 1, (0, 1))])
        self.assert_same(least, [(3,), (4,), (0, 1)])
        wishes = [("rise", 0, 1, ((0, 0),)), ("none",), ("bar", 0, 1, (0, 1)), ("rise", 0, 0, ())]
        self.same_as_told(book, menu, wishes)

    def test_met_by_none(self):
        book = simple_book()
        wishes = [("rise", 0, 23, ()), ("bar", 0, 0, (0, 1))]
        self.assert_same(self.same_as_told(book, [("high", 5)], wishes), ([], [()], [(0, 1)]))
        self.assert_same(self.same_as_told(book, [("high", 5)], wishes[:1]), ([], [()], []))
        self.assert_same(self.same_as_told(book, [("high", 5)], [("rise", 0, 0, ())]), ([()], [(0,)], []))

    def test_wishes_may_be_alike(self):
        book, wish = simple_book(), ("rise", 0, 1, ((0, 0),))
        self.assert_same(self.same_as_told(book, [("high", 5)], [wish, ("none",), wish]),
                         ([], [(0, 2)], [(0, 1), (1, 2)]))

    def test_an_entry_that_the_row_has_already(self):
        book = simple_book()
        self.assert_same(self.same_as_told(book, [("entry", 0, "upper", (1, -1))], [("rise", 0, 1, ((0, 0),))]),
                         ([()], [(0,)], []))

    def test_choices_that_give_no_book_are_left_out(self):
        # Low 2 and high 1 each give a book, together none.
        book = Book(0, 3, [(0, (1, 0), None, None)])
        menu = [("low", 2), ("high", 1)]
        wishes = [("rise", 0, 23, ()), ("rise", 3, 23, ())]
        self.assert_same(self.same_as_told(book, menu, wishes), ([], [(0,), (1,)], [(0, 1)]))
        # With high 9 between them they do.
        menu = [("low", 2), ("high", 1), ("high", 9)]
        self.same_as_told(book, menu, wishes)

    def test_many(self):
        chance = random.Random(153)
        for _ in range(80):
            book = some_book(chance, 6)
            menu = some_menu(chance, book, chance.choice([2, 4]))
            self.same_as_told(book, menu, [some_wish(chance, book) for _ in range(chance.randint(1, 5))])

    def test_many_quarrels(self):
        chance = random.Random(155)
        found = {"least": 0, "several": 0, "kept": 0, "quarrels": 0}
        for _ in range(300):
            least, kept, pairs = self.same_as_told(*some_quarrel(chance))
            found["least"] += least not in ([], [()])
            found["several"] += len(least) > 1
            found["kept"] += len(kept) > 1
            found["quarrels"] += len(pairs) > 0
        self.assertGreater(min(found.values()), 5, found)

    def test_six_of_each(self):
        chance = random.Random(154)
        for _ in range(3):
            book = some_book(chance, 5)
            menu = []
            while len(menu) < 6:
                menu = some_menu(chance, book)
            self.same_as_told(book, menu, [some_wish(chance, book) for _ in range(6)])

    def test_a_short_time(self):
        book = Book(0, 23, [(0, (2, -2), (0, 0), (-2, 2)), (3, (1, -1), (-1, 1), (-3, 3)), (8, (0, 0), (-2, 2), (-5, 5))])
        menu = [("entry", 0, "upper", (2, -3)), ("entry", 0, "lower", (-3, 2)), ("entry", 1, "lower", (-3, 2)),
                ("entry", 1, "draw", (-2, 1)), ("entry", 2, "lower", (-5, 4)), ("entry", 2, "draw", None)]
        wishes = [("bar", 0, 20, (1, 50)), ("bar", 3, 18, (1, 40)), ("bar", 5, 22, (1, 20)), ("bar", 8, 19, (1, 10)),
                  ("bar", 10, 21, (1, 4)), ("rise", 3, 7, ((3, 0), (9, 0)))]
        for call, high in ((least_mends, 23), (greatest_kept, 23), (quarrels, 15)):
            start = time.perf_counter()
            call(Book(0, high, book.table), menu, wishes)
            self.assertLess(time.perf_counter() - start, 15)

    def test_told_lists_are_new_and_what_is_handed_in_stays(self):
        book, menu, wishes = simple_book(), [("high", 5), ("low", 1)], [("none",), ("rise", 0, 1, ((0, 0),))]
        for call in (least_mends, greatest_kept, quarrels):
            told = call(book, menu, wishes)
            kept = list(told)
            told.clear()
            self.assert_same(call(book, menu, wishes), kept)
        self.assert_same(menu, [("high", 5), ("low", 1)])
        self.assert_same(wishes, [("none",), ("rise", 0, 1, ((0, 0),))])
        self.assertEqual(book, simple_book())


if __name__ == "__main__":
    unittest.main()
