"""Promises: days of bouts, where their orders lead, and whether order counts in a book at all; errors in order."""

from itertools import permutations, product
import random
import unittest

from liftedladders.books import Book
from liftedladders.bouts import Day, after_day, counts, ends, is_orderless, lets_witness, witness
from liftedladders.errors import BadBout, BadHand, TooMany
from tests.support import Case, EqualToAll, ODD, simple_book, some_book

OUTCOMES = ("one", "draw", "other")
FIRST, SECOND, THIRD = (0, 1, "one"), (1, 2, "draw"), (2, 0, "other")
# Each winner goes one up, nobody goes down: so the order does not count unless there is a wall or a border.
FLAT = [(0, (1, 0), (0, 0), (0, 1))]


def flat_book():
    """A book in which each game that counts leaves all where they are: it is orderless."""
    return Book(0, 3, [(0, (0, 0), None, (0, 0))])


def told_bout(book, places, bout):
    """The places behind a bout, told by the definition."""
    one, other, outcome = bout
    there = list(places)
    upper, lower = (one, other) if there[one][0] >= there[other][0] else (other, one)
    result = "draw" if outcome == "draw" else "upper" if (outcome == "one") == (upper == one) else "lower"
    behind = book.game(there[upper], there[lower], result)
    if behind is not None:
        there[upper], there[lower] = behind
    return tuple(there)


def told_end(book, places, bouts):
    for bout in bouts:
        places = told_bout(book, places, bout)
    return tuple(places)


def told_ends(book, places, day):
    return sorted({told_end(book, places, order) for order in permutations(day.bouts)})


def some_bout(chance, players):
    one, other = chance.sample(range(players), 2)
    return (one, other, chance.choice(OUTCOMES))


def some_day(chance, players=4, most=6):
    return Day([some_bout(chance, players) for _ in range(chance.randint(0, most))])


def told_orderless(book):
    """Whether each two bouts with a player in common lead to the same in both orders, at all places."""
    bouts = [(one, other, outcome) for one in range(3) for other in range(3) if one != other for outcome in OUTCOMES]
    behind = {(places, bout): told_bout(book, places, bout)
              for places in product(book.places(), repeat=3) for bout in bouts}
    return all(behind[(there, other)] == behind[(behind[(places, other)], bout)]
               for (places, bout), there in behind.items() for other in bouts)


def sparse_book(chance):
    """A book of few places in which few results count, so that some are orderless and some hardly are not."""
    high, most, often = chance.randint(0, 2), chance.randint(1, 3), chance.choice([0.2, 0.5])
    table = [(border, *[(chance.randint(-most, most), chance.randint(-most, most)) if chance.random() < often else None
                        for _ in range(3)]) for border in range(3) if border == 0 or chance.random() < 0.4]
    parts = chance.choice([{}, {"bonus": 1}, {"fresh": 1, "times": chance.randint(1, 3)}] if high < 2 else [{}])
    return Book(0, high, table, **parts)


class DayTest(Case):
    def test_told(self):
        for bouts, players in (([], 0), ([FIRST], 2), ([(1, 0, "draw")], 2), ([FIRST, SECOND, THIRD], 3),
                               ([(5, 0, "one")], 6), ([(0, 5, "one"), FIRST], 6), ([FIRST] * 6, 2), ([(3, 2, "one")], 4)):
            day = Day(bouts)
            self.assert_same((day.bouts, day.players(), len(day)), (tuple(bouts), players, len(bouts)))
            self.assertEqual(Day(bouts=tuple(bouts)), day)

    def test_refused(self):
        for odd in (None, {}, {FIRST: 1}, {FIRST}, "", "one", 0, True, object(), EqualToAll(), Day([FIRST]), [FIRST] * 7,
                    (FIRST,) * 7, [None] * 7):
            self.refuses(BadBout, "index", None, Day, odd)
        for odd in ODD + ((0, 0, "one"), (0, 6, "one"), (6, 0, "one"), (-1, 0, "one"), (0, -1, "one"), (0, 1, "upper"),
                          (0, 1, "lower"), (0, 1, None), (0, 1), (0, 1, "one", 0), [0, 1, "one"], (False, 1, "one"),
                          (0, True, "one"), (0, 1, ["one"]), (0, 1, "One"), ("0", 1, "one"), (0, None, "one"),
                          (0, 1, EqualToAll()), (EqualToAll(), 1, "one"), EqualToAll()):
            for index in range(3):
                bouts = [FIRST, SECOND][:index] + [odd]
                self.refuses(BadBout, "index", index, Day, bouts)
                self.refuses(BadBout, "index", index, Day, tuple(bouts) + (None, FIRST))
                self.refuses(BadBout, "index", index, lambda: Day(bouts[:index]) + odd)
        self.refuses(BadBout, "index", None, lambda: Day([FIRST] * 6) + SECOND)
        self.refuses(BadBout, "index", None, lambda: Day([FIRST] * 6) + None)

    def test_one_more(self):
        day = Day([FIRST])
        self.assert_same((day + SECOND).bouts, (FIRST, SECOND))
        self.assert_same((Day([]) + SECOND + FIRST + FIRST).bouts, (SECOND, FIRST, FIRST))
        self.assert_same(day.bouts, (FIRST,))
        self.assertEqual(len(Day([FIRST] * 5) + SECOND), 6)

    def test_compared(self):
        self.assert_truth(Day([FIRST, SECOND]) == Day((FIRST, SECOND)), True)
        self.assert_truth(Day([]) == Day(()), True)
        for other in (Day([SECOND, FIRST]), Day([FIRST]), Day([FIRST, SECOND, SECOND]), Day([]), (FIRST, SECOND),
                      [FIRST, SECOND], None, 2):
            self.assert_truth(Day([FIRST, SECOND]) == other, False)
            self.assert_truth(Day([FIRST, SECOND]) != other, True)

    def test_in_order(self):
        day = Day([FIRST, SECOND, THIRD])
        for indexes in permutations(range(3)):
            told = tuple(day.bouts[index] for index in indexes)
            self.assert_same(day.in_order(indexes).bouts, told)
            self.assert_same(day.in_order(indexes=list(indexes)).bouts, told)
        self.assert_same(day.bouts, (FIRST, SECOND, THIRD))
        self.assertEqual(Day([]).in_order([]), Day([]))
        self.assertEqual(Day([FIRST, FIRST]).in_order([1, 0]), Day([FIRST, FIRST]))

    def test_no_order(self):
        day = Day([FIRST, SECOND, THIRD])
        for odd in ODD + ([0, 1], [0, 1, 1], [0, 1, 2, 2], [0, 1, 3], [0, 1, -1], [0, 1, 2, 3], [0, True, 2], [False, 1, 2],
                          [0, 1, "2"], [0, 1, None], [0, 1, [2]], {0: 0, 1: 1, 2: 2}, {0, 1, 2}, "012", range(3), day,
                          EqualToAll(), [EqualToAll()] * 3, [1, 2, 3], [-1, 0, 1]):
            self.refuses(BadBout, "index", None, day.in_order, odd)
        self.refuses(BadBout, "index", None, Day([]).in_order, [0])
        self.refuses(BadBout, "index", None, Day([FIRST]).in_order, [])
        self.refuses(BadBout, "index", None, Day([FIRST]).in_order, [False])

    def test_the_list_may_be_changed_afterwards(self):
        bouts = [FIRST, SECOND]
        day = Day(bouts)
        bouts.clear()
        self.assertEqual(day, Day([FIRST, SECOND]))


class AfterDayTest(Case):
    def test_told(self):
        book = simple_book()
        zero, one, two = book.places()
        for places, bouts, behind in (([zero, zero], [(0, 1, "one")], (one, zero)), ([zero, zero], [(0, 1, "other")], (zero, one)),
                                      ([zero, zero], [(1, 0, "one")], (zero, one)), ([zero, one], [(0, 1, "one")], (one, zero)),
                                      ([zero, one], [(0, 1, "other")], (zero, two)), ([one, zero], [(1, 0, "other")], (two, zero)),
                                      ([zero, zero, two], [(0, 1, "one"), (0, 2, "one")], (two, zero, one)),
                                      ([zero, zero, two], [(0, 2, "one"), (0, 1, "one")], (two, zero, one)),
                                      ([zero] * 3, [], (zero,) * 3), ([], [], ()), ([two] * 4, [(0, 1, "draw")], (two,) * 4)):
            self.assert_same(after_day(book, places, Day(bouts)), behind)
            self.assert_same(after_day(day=Day(bouts), places=tuple(places), book=book), behind)

    def test_of_equal_ratings_one_is_the_upper_one(self):
        book = Book(0, 9, [(0, (4, -1), (2, -3), (-2, 3))])
        five = (5, 0)
        for bout, behind in (((0, 1, "one"), (9, 4)), ((1, 0, "one"), (4, 9)), ((0, 1, "draw"), (7, 2)),
                             ((1, 0, "draw"), (2, 7)), ((0, 1, "other"), (3, 8)), ((1, 0, "other"), (8, 3))):
            self.assert_same(after_day(book, [five, five], Day([bout])), ((behind[0], 0), (behind[1], 0)))
        for bout, behind in (((0, 1, "one"), (7, 4)), ((1, 0, "one"), (3, 9)), ((0, 1, "draw"), (1, 8)),
                             ((1, 0, "draw"), (1, 8))):
            self.assert_same(after_day(book, [(4, 0), (6, 0)], Day([bout])), ((behind[0], 0), (behind[1], 0)))

    def test_a_bout_that_does_not_count(self):
        book = Book(0, 3, [(0, (1, -1), None, (-1, 1)), (2, None, None, None)])
        places = ((0, 0), (3, 0), (1, 0))
        self.assert_same(after_day(book, places, Day([(0, 1, "one"), (1, 0, "one"), (0, 2, "draw")])), places)
        self.assert_same(after_day(book, places, Day([(0, 1, "one"), (2, 0, "one")])), ((0, 0), (3, 0), (2, 0)))

    def test_many(self):
        chance = random.Random(91)
        for _ in range(60):
            book = some_book(chance, 9)
            places = [chance.choice(book.places()) for _ in range(4)]
            day = some_day(chance, most=5)
            self.assert_same(after_day(book, places, day), told_end(book, places, day.bouts))
            told = told_ends(book, places, day)
            self.assert_same(ends(book, places, day), told)
            self.assert_truth(counts(book, places, day), len(told) > 1)
            self.assertIn(after_day(book, places, day), told)


class EndsTest(Case):
    def test_told(self):
        book = simple_book()
        zero, one, two = book.places()
        day = Day([(0, 1, "one"), (0, 1, "other")])
        self.assert_same(ends(book, [zero, zero], day), [(zero, one), (one, zero)])
        self.assert_same(ends(day=day, places=(one, one), book=book), [(one, one)])
        self.assert_truth(counts(book, [zero, zero], day), True)
        self.assert_truth(counts(day=day, places=(one, one, two), book=book), False)
        self.assert_same(ends(book, [zero], Day([])), [(zero,)])
        self.assert_same(ends(book, [], Day([])), [()])
        self.assert_truth(counts(book, [], Day([])), False)
        self.assert_same(ends(book, (two, zero), Day([FIRST])), [(two, zero)])

    def test_six_bouts(self):
        chance = random.Random(92)
        for book in (Book(0, 11, [(0, (2, -1), (0, 0), (-1, 2)), (3, (1, -1), (-1, 1), (-3, 3))]),
                     Book(0, 5, [(0, (1, -1), None, (-1, 2))], bonus=2), Book(0, 7, [(0, (1, -1), (1, 1), (-2, 1))],
                                                                              fresh=1, times=2)):
            day = Day([(0, 1, "one"), (1, 2, "one"), (2, 3, "other"), (3, 4, "draw"), (4, 5, "one"), (5, 0, "other")])
            places = [chance.choice(book.places()) for _ in range(6)]
            self.assert_same(ends(book, places, day), told_ends(book, places, day))

    def test_new_lists(self):
        book, day = simple_book(), Day([(0, 1, "one"), (0, 1, "other")])
        first = ends(book, [(0, 0), (0, 0)], day)
        first.clear()
        self.assertEqual(len(ends(book, [(0, 0), (0, 0)], day)), 2)

    def test_refused(self):
        book = simple_book()
        zero = (0, 0)
        for call in (after_day, ends, counts):
            for odd in ODD + ([zero], (zero,), [], [zero, (3, 0)], [zero, (False, 0)], [zero, zero, None], [zero, [0, 0]],
                              {zero: 1, (1, 0): 1}, {zero, (1, 0)}, "ab", zero, [zero, (0, 1)], [zero, EqualToAll()]):
                self.refuses(BadHand, "hand", odd, call, book, odd, Day([FIRST]))
            odd = EqualToAll()
            with self.assertRaises(BadHand) as caught:
                call(book, odd, Day([FIRST]))
            self.assertIs(caught.exception.hand, odd)
            self.refuses(BadHand, "hand", [zero] * 5, call, book, [zero] * 5, Day([(0, 5, "one")]))
            call(book, [zero] * 6, Day([(0, 5, "one")]))
            call(book, [zero] * 9, Day([]))
            self.refuses(BadHand, "hand", [None], call, book, [None], Day([]))

    def test_what_is_handed_in_stays(self):
        book, places = simple_book(), [(0, 0), (1, 0)]
        for call in (after_day, ends, counts):
            call(book, places, Day([FIRST, FIRST]))
        self.assert_same(places, [(0, 0), (1, 0)])


class WitnessTest(Case):
    def test_orderless(self):
        for book in (flat_book(), Book(0, 11, [(0, None, None, None)]), Book(3, 3, [(0, (9, -9), (1, 1), (-9, 9))]),
                     Book(0, 3, [(0, None, None, None)], fresh=2, times=3), Book(0, 5, [(0, None, None, None)], bonus=5)):
            self.assertIsNone(witness(book))
            self.assertIsNone(witness(book=book))
            self.assert_truth(is_orderless(book=book), True)

    def test_order_counts(self):
        for book in (simple_book(), Book(0, 11, [(0, (1, -1), (0, 0), (-1, 1))]), Book(0, 1, [(0, (1, -1), None, None)]),
                     Book(0, 5, [(0, (0, 0), None, (0, 0))], bonus=1), Book(0, 11, [(0, None, (1, -1), None)]),
                     Book(0, 1, [(0, (-1, 0), None, None)], fresh=2, times=1)):
            self.shows(book, witness(book))
            self.assert_truth(is_orderless(book), False)

    def shows(self, book, told):
        self.assertIsInstance(told, tuple)
        places, day = told
        self.assertIsInstance(places, tuple)
        self.assertIn(len(places), (2, 3))
        self.assertLessEqual(day.players(), len(places))
        self.assertEqual(len(day), 2)
        self.assertGreater(len(told_ends(book, places, day)), 1)
        self.assert_truth(counts(book, places, day), True)
        self.assert_truth(lets_witness(book, told), True)

    def test_many(self):
        chance = random.Random(93)
        found = {True: 0, False: 0}
        for _ in range(250):
            book = sparse_book(chance)
            told = witness(book)
            orderless = told_orderless(book)
            found[orderless] += 1
            self.assert_truth(is_orderless(book), orderless)
            self.assertEqual(told is None, orderless)
            if not orderless:
                self.shows(book, told)
        self.assertGreater(min(found.values()), 50)

    def test_hardly_not_orderless(self):
        # In each of these books just one kind of bout, or one of the three players, shows that the order counts.
        for high, rows, parts in ((1, [(0, None, None, (1, 0)), (2, None, None, (1, 1))], {}),
                                  (2, [(0, None, None, (0, 2)), (1, None, None, None)], {}),
                                  (2, [(0, None, None, None), (1, None, None, (0, 1))], {}),
                                  (1, [(0, None, (0, -2), None)], {"fresh": 1, "times": 3}),
                                  (0, [(0, (-1, -2), None, None), (2, None, None, None)], {"bonus": 1}),
                                  (0, [(0, None, None, (-3, -2)), (3, None, None, None)], {"bonus": 1}),
                                  (3, [(0, None, (-3, -2), None)], {}),
                                  (1, [(0, (1, 2), None, (2, 0))], {}),
                                  (2, [(0, None, None, None), (1, None, None, None), (2, None, (1, 3), None)], {}),
                                  (1, [(0, (0, -1), None, None), (1, (1, -2), None, None), (2, None, None, (1, -2))], {}),
                                  (1, [(0, None, (0, -1), None)], {"bonus": 1})):
            book = Book(0, high, rows, **parts)
            self.assertFalse(told_orderless(book))
            self.shows(book, witness(book))

    def test_three_are_needed(self):
        # All games of one pair have the same end in both orders; a third player alone shows that the order counts.
        pairs = [(one, other, outcome) for one, other in ((0, 1), (1, 0)) for outcome in OUTCOMES]
        for book in (Book(1, 3, [(0, (-2, -2), (-2, -2), None)]), Book(0, 1, [(0, (-2, -9), None, (-6, 0))]),
                     Book(0, 3, [(0, None, None, (-2, -2))]), Book(1, 2, [(0, (0, 2), None, (1, 2))], fresh=1)):
            for places in product(book.places(), repeat=2):
                for one, other in product(pairs, repeat=2):
                    self.assertEqual(told_end(book, places, (one, other)), told_end(book, places, (other, one)))
            self.assertFalse(told_orderless(book))
            self.assertEqual(len(witness(book)[0]), 3)
            self.shows(book, witness(book))

    def test_days_of_an_orderless_book(self):
        chance = random.Random(95)
        books = [book for book in (some_book(chance, 2) for _ in range(300)) if len(book) < 13 and is_orderless(book)]
        self.assertGreater(len(books), 5)
        for book in books:
            for _ in range(5):
                places = [chance.choice(book.places()) for _ in range(5)]
                self.assert_truth(counts(book, places, some_day(chance, 5)), False)

    def test_too_many(self):
        for book in (Book(0, 12, FLAT), Book(0, 23, [(0, None, None, None)]), Book(0, 6, FLAT, fresh=1),
                     Book(0, 6, FLAT, bonus=1), Book(0, 4, FLAT, fresh=2)):
            self.refuses(TooMany, "limit", 12, witness, book)
            self.refuses(TooMany, "limit", 12, is_orderless, book)
        for book in (Book(0, 11, FLAT), Book(12, 23, FLAT), Book(0, 5, FLAT, fresh=1), Book(0, 3, FLAT, fresh=2, times=2)):
            self.assert_truth(is_orderless(book), witness(book) is None)


class LetsWitnessTest(Case):
    def test_told(self):
        book = simple_book()
        zero, one, two = book.places()
        day = Day([(0, 1, "one"), (0, 1, "other")])
        for places, bouts, holds in (((zero, zero), day, True), ((zero, zero, two), day, True), ((one, one), day, False),
                                     ((zero, one), day, True), ((one, two), day, True), ((zero,), day, False), ((), day, False),
                                     ((zero, zero), Day([]), False), ((), Day([]), False), ((zero, zero), Day([FIRST]), False),
                                     ((zero,) * 6, Day([(0, 1, "one"), (1, 2, "one"), (2, 3, "one"), (3, 4, "one"),
                                                        (4, 5, "one"), (5, 0, "one")]), True),
                                     ((zero, zero, one, one), Day([(0, 1, "one"), (2, 3, "draw")]), False)):
            self.assert_truth(lets_witness(book, (places, bouts)), holds)
            self.assert_truth(lets_witness(value=(places, bouts), book=book), holds)
            self.assert_truth(lets_witness(book, [places, bouts]), False)
            self.assert_truth(lets_witness(book, (list(places), bouts)), False)

    def test_any_value(self):
        book = simple_book()
        zero = (0, 0)
        day = Day([(0, 1, "one"), (0, 1, "other")])
        self.assert_truth(lets_witness(book, ((zero, zero), day)), True)
        for odd in ODD + (day, (day,), (day, (zero, zero)), ((zero, zero),), ((zero, zero), day, day), EqualToAll(),
                          ((zero, zero), list(day.bouts)), ((zero, zero), day.bouts), (None, day), ({zero: 1}, day),
                          (EqualToAll(), day), ((zero, zero), EqualToAll()), ((zero, zero), Day), ((zero, zero), None),
                          ("ab", day), (zero, day)):
            self.assert_truth(lets_witness(book, odd), False)
        for odd in ODD + ((3, 0), (0, 1), (False, 0), (0, False), [0, 0], 0, EqualToAll()):
            self.assert_truth(lets_witness(book, ((zero, odd), day)), False)
            self.assert_truth(lets_witness(book, ((odd, zero), day)), False)
            self.assert_truth(lets_witness(book, ((zero, zero, odd), day)), False)

    def test_more_than_twelve_places(self):
        book = Book(0, 23, [(0, (1, -1), (0, 0), (-1, 1))])
        day = Day([(0, 1, "one"), (0, 1, "other")])
        self.assert_truth(lets_witness(book, (((0, 0), (0, 0)), day)), True)
        self.assert_truth(lets_witness(book, (((9, 0), (9, 0)), day)), False)

    def test_whoever_wrote_it(self):
        chance = random.Random(96)
        found = {True: 0, False: 0}
        for _ in range(200):
            book = some_book(chance, 6)
            day = Day([some_bout(chance, 3) for _ in range(chance.randint(0, 4))])
            places = tuple(chance.choice(book.places()) for _ in range(chance.choice([2, 3, 3, 3, 4])))
            holds = len(places) >= day.players() and len(told_ends(book, places, day)) > 1
            found[holds] += 1
            self.assert_truth(lets_witness(book, (places, day)), holds)
        self.assertGreater(min(found.values()), 20)


if __name__ == "__main__":
    unittest.main()
