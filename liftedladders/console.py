"""A console: rows of words that are said to a ladder, and its answers."""

from liftedladders.errors import BadLine
from liftedladders.ladder import Ladder
from liftedladders.shares import share_at
from liftedladders.texts import is_number_word, read_book, write_games
from liftedladders.ways import ways_of


def is_step(words):
    """Whether words are a row that makes a step or takes one back."""
    kind = words[0]
    if kind == "join":
        return len(words) == 3 and is_number_word(words[2])
    if kind == "play":
        return len(words) == 4
    return len(words) > 1 if kind == "book" else kind == "undo" and len(words) == 1


def stepped(ladder, words):
    """The answer of a ladder to words that make a step or take one back."""
    kind = words[0]
    if kind == "play":
        return "counted" if ladder.enter(words[1], words[2], words[3]) else "not counted"
    if kind == "join":
        ladder.join(words[1], int(words[2]))
    elif kind == "book":
        ladder.rebook(read_book(" ".join(words[1:])))
    else:
        ladder.undo()
    return "ok"


def is_question(words):
    """Whether words are a row that asks."""
    kind = words[0]
    if kind == "share":
        return len(words) == 3 and is_number_word(words[1]) and is_number_word(words[2])
    return len(words) == 2 if kind == "rating" else kind in ("order", "games") and len(words) == 1


def share_text(book, rating, target):
    """The greatest share of newcomers with a rating that can be lifted to ratings of at least a target."""
    start = book.start(rating)
    over, under = share_at(ways_of(book), start, [place for place in book.places() if place[0] >= target])
    return f"{over}/{under}"


def told_by(ladder, words):
    """The answer of a ladder to words that ask."""
    kind = words[0]
    if kind == "rating":
        return str(ladder(words[1]))
    if kind == "share":
        return share_text(ladder.book, int(words[1]), int(words[2]))
    text = " ".join(ladder.order()) if kind == "order" else write_games(ladder.games())
    return "none" if text == "" else text


class Console:
    """A ladder to which rows are said."""

    def __init__(self, book):
        self.ladder = Ladder(book)

    def say(self, row):
        """The answer to a row."""
        words = row.split(" ") if isinstance(row, str) else [""]
        if "" in words:
            raise BadLine(row)
        if is_step(words):
            return stepped(self.ladder, words)
        if is_question(words):
            return told_by(self.ladder, words)
        if words[0] == "try" and len(words) > 1 and is_step(words[1:]):
            with self.ladder.trying() as ladder:
                answer = stepped(ladder, words[1:])
            return answer
        raise BadLine(row)
