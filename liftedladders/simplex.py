"""The exact simplex method by which greatest mean worths are found."""

from liftedladders.numbers import fraction


def is_quick(column):
    """Whether a column takes away one or two and brings as many."""
    return sum([number for _, number in column if number > 0]) <= 2


def seats(column):
    """Where two friends come by a quick column, and where they are taken away: places in a row of prices."""
    outs = []
    ins = []
    for row, number in column:
        for _ in range(-number):
            outs.append(row + 1)
        for _ in range(number):
            ins.append(row + 1)
    # One friend alone comes with another one who stays where the first one was.
    if len(ins) == 1:
        outs.append(ins[0])
        ins.append(ins[0])
    return tuple(outs + ins)


class Simplex:
    """How the friends of one start come to the greatest worth.

    The rows are places. What is there, the rest, is one at the first row, less the sum of the columns, each
    times its amount; neither rests nor amounts are below 0, and rests times worths is to be greatest. A column
    is a tuple of tuples (row, number): what one such move takes away there, so its numbers sum up to 0.

    The basis has a column, or the rest of a row, for each row. The integers in the table are all to be divided
    by one number, so all is exact. For each row of the basis the table has its amount and the row of the
    inverse of the basis; the prices have the worth of all, and then the price of each row.
    """

    def __init__(self, worths, columns, first):
        size = len(worths)
        self._worths = list(worths)
        self._columns = list(columns)
        # Columns of one or two friends stand apart: their gains are told soonest.
        self._quick = [(at, *seats(column)) for at, column in enumerate(columns) if is_quick(column)]
        self._slow = [(at, column) for at, column in enumerate(columns) if not is_quick(column)]
        self._under = 1
        self._basis = [-1 - row for row in range(size)]
        self._table = [[1 if row == first else 0] + [1 if row == at else 0 for at in range(size)]
                       for row in range(size)]
        self._prices = [worths[first]] + list(worths)
        entering = self._entering()
        while entering is not None:
            self._enter(entering)
            entering = self._entering()

    def optimum(self):
        """The greatest worth."""
        return fraction(self._prices[0], self._under)

    def prices(self):
        """The price of each row."""
        return [fraction(price, self._under) for price in self._prices[1:]]

    def amounts(self):
        """The list of the tuples (column, amount) of the columns with an amount above 0."""
        return [(at, fraction(line[0], self._under))
                for at, line in zip(self._basis, self._table) if at >= 0 and line[0] > 0]

    def _entering(self):
        """What gains most by its price, a column or -1 and less for the rest of a row; None if nothing gains."""
        prices = self._prices
        best = 0
        entering = None
        for row, worth in enumerate(self._worths):
            gain = worth * self._under - prices[row + 1]
            if gain > best:
                best = gain
                entering = -1 - row
        for at, out, out_too, here, here_too in self._quick:
            gain = prices[out] + prices[out_too] - prices[here] - prices[here_too]
            if gain > best:
                best = gain
                entering = at
        for at, column in self._slow:
            gain = 0
            for row, number in column:
                gain -= number * prices[row + 1]
            if gain > best:
                best = gain
                entering = at
        return entering

    def _enter(self, entering):
        """Puts what enters in the place of what leaves."""
        if entering < 0:
            column = ((-1 - entering, 1),)
            gain = self._worths[-1 - entering] * self._under
        else:
            column = self._columns[entering]
            gain = 0
        gain -= sum([number * self._prices[row + 1] for row, number in column])
        takes = [sum([number * line[row + 1] for row, number in column]) for line in self._table]
        leaving = self._leaving(takes)
        pivot = takes[leaving]
        told = self._table[leaving]
        for at in range(len(takes)):
            if at != leaving:
                self._table[at] = self._turned(self._table[at], told, pivot, takes[at])
        self._prices = self._turned(self._prices, told, pivot, -gain)
        self._basis[leaving] = entering
        self._under = pivot

    def _turned(self, line, told, pivot, take):
        """A line behind the change of the basis; the division leaves no remainder."""
        under = self._under
        if take == 0 and pivot == under:
            return line
        return [(one * pivot - take * other) // under for one, other in zip(line, told)]

    def _leaving(self, takes):
        """The row whose amount is first used up.

        Where several are at once, their rows of the inverse are compared, too: so no basis comes again.
        """
        leaving = None
        for at, take in enumerate(takes):
            if take > 0 and (leaving is None or self._is_sooner(at, leaving, takes)):
                leaving = at
        return leaving

    def _is_sooner(self, at, other, takes):
        """Whether the line at one row, divided by what is taken from it, is less than the other one."""
        for one, two in zip(self._table[at], self._table[other]):
            left = one * takes[other]
            right = two * takes[at]
            if left != right:
                return left < right
        return False
