"""The errors. Each keeps the one argument from which it is made."""


class LadderError(ValueError):
    """A value that does not fit: the base of the errors of this kind."""


class BadNumber(LadderError):
    """A number that does not fit."""

    def __init__(self, number):
        super().__init__("a number that does not fit")
        self.number = number


class BadBook(LadderError):
    """A part of a book that does not fit."""

    def __init__(self, part):
        super().__init__("a part of a book that does not fit")
        self.part = part


class BadPlace(LadderError):
    """A value that is no place here."""

    def __init__(self, place):
        super().__init__("a value that is no place here")
        self.place = place


class BadGame(LadderError):
    """A part of a game that does not fit."""

    def __init__(self, value):
        super().__init__("a part of a game that does not fit")
        self.value = value


class BadMove(LadderError):
    """A move that does not fit or cannot be made."""

    def __init__(self, index):
        super().__init__("a move that does not fit or cannot be made")
        self.index = index


class BadLot(LadderError):
    """A lot that does not fit, or has nobody."""

    def __init__(self, place):
        super().__init__("a lot that does not fit, or has nobody")
        self.place = place


class BadWorths(LadderError):
    """A place without a worth."""

    def __init__(self, place):
        super().__init__("a place without a worth")
        self.place = place


class BadGoal(LadderError):
    """A part of a goal that does not fit."""

    def __init__(self, part):
        super().__init__("a part of a goal that does not fit")
        self.part = part


class BadHand(LadderError):
    """A value that is no hand here."""

    def __init__(self, hand):
        super().__init__("a value that is no hand here")
        self.hand = hand


class BadHonest(LadderError):
    """A place of honest ones that does not fit."""

    def __init__(self, index):
        super().__init__("a place of honest ones that does not fit")
        self.index = index


class BadGames(LadderError):
    """A number of games that does not fit."""

    def __init__(self, number):
        super().__init__("a number of games that does not fit")
        self.number = number


class BadBout(LadderError):
    """A bout or an order of bouts that does not fit."""

    def __init__(self, index):
        super().__init__("a bout or an order of bouts that does not fit")
        self.index = index


class BadRow(LadderError):
    """A row of results that does not fit."""

    def __init__(self, index):
        super().__init__("a row of results that does not fit")
        self.index = index


class BadChances(LadderError):
    """A row of chances that does not fit."""

    def __init__(self, index):
        super().__init__("a row of chances that does not fit")
        self.index = index


class BadOpponent(LadderError):
    """An opponent that does not fit."""

    def __init__(self, index):
        super().__init__("an opponent that does not fit")
        self.index = index


class BadPlan(LadderError):
    """A plan that does not tell what to play."""

    def __init__(self, key):
        super().__init__("a plan that does not tell what to play")
        self.key = key


class BadMenu(LadderError):
    """A change of a menu that does not fit."""

    def __init__(self, index):
        super().__init__("a change of a menu that does not fit")
        self.index = index


class BadChoice(LadderError):
    """A choice that does not fit, or gives no book."""

    def __init__(self, choice):
        super().__init__("a choice that does not fit, or gives no book")
        self.choice = choice


class BadWish(LadderError):
    """A wish that does not fit."""

    def __init__(self, index):
        super().__init__("a wish that does not fit")
        self.index = index


class BadTold(LadderError):
    """A told game that does not fit."""

    def __init__(self, index):
        super().__init__("a told game that does not fit")
        self.index = index


class BadName(LadderError):
    """A name that does not fit."""

    def __init__(self, name):
        super().__init__("a name that does not fit")
        self.name = name


class BadText(LadderError):
    """A row of a text that does not fit."""

    def __init__(self, index):
        super().__init__("a row of a text that does not fit")
        self.index = index


class BadLine(LadderError):
    """A line that cannot be read."""

    def __init__(self, line):
        super().__init__("a line that cannot be read")
        self.line = line


class UnknownPlace(KeyError):
    """A place that is not known here."""

    def __init__(self, place):
        super().__init__("a place that is not known here")
        self.place = place


class TooMany(OverflowError):
    """More than the limit lets."""

    def __init__(self, limit):
        super().__init__("more than the limit lets")
        self.limit = limit


class NothingToUndo(RuntimeError):
    """Nothing that could be taken back."""

    def __init__(self, name):
        super().__init__("nothing that could be taken back")
        self.name = name
