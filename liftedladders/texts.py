"""Books and games as texts."""

from liftedladders.books import Book, is_result
from liftedladders.errors import BadText
from liftedladders.ladder import is_name

DIGITS = "0123456789"
MOST_DIGITS = 4


def entry_text(entry):
    """The word of an entry."""
    return "-" if entry is None else f"{entry[0]}/{entry[1]}"


def write_book(book):
    """The text of a book."""
    words = f"low {book.low} high {book.high}"
    if book.fresh > 0:
        words = words + f" fresh {book.fresh} times {book.times}"
    if book.bonus > 0:
        words = words + f" bonus {book.bonus}"
    rows = [words]
    for border, upper, draw, lower in book.table:
        rows.append(f"{border} {entry_text(upper)} {entry_text(draw)} {entry_text(lower)}")
    return "; ".join(rows)


def write_games(games):
    """The text of some games."""
    return "; ".join([f"{one} {other} {result}" for one, other, result in games])


def is_number_word(word):
    """Whether a word is a number as it is written in a text."""
    digits = word[1:] if word.startswith("-") else word
    if not 1 <= len(digits) <= MOST_DIGITS or not all([digit in DIGITS for digit in digits]):
        return False
    return word == "0" or digits[0] != "0"


def number_in(word):
    """The number of a word; None if it is none."""
    return int(word) if is_number_word(word) else None


def numbers_behind_names(words, names):
    """The list of the numbers of words `NAME NUMBER NAME NUMBER ..` with just these names; None if they are not so."""
    if words[::2] != names or len(words) != 2 * len(names):
        return None
    numbers = [number_in(word) for word in words[1::2]]
    return None if None in numbers else numbers


def read_parts(words):
    """The dict from the parts of a book but its table to what words tell of them; None if they are not so."""
    told = {"fresh": 0, "times": 1, "bonus": 0}
    for names in (["low", "high"], ["fresh", "times"], ["bonus"]):
        count = 2 * len(names)
        may_lack = names[0] != "low"
        if may_lack and words[:1] != names[:1]:
            continue
        numbers = numbers_behind_names(words[:count], names)
        if numbers is None or (may_lack and numbers[0] < 1):
            return None
        for name, number in zip(names, numbers):
            told[name] = number
        words = words[count:]
    return told if len(words) == 0 else None


def has_entry_form(word):
    """Whether a word is an entry as it is written in a text."""
    if word == "-":
        return True
    changes = word.split("/")
    return len(changes) == 2 and is_number_word(changes[0]) and is_number_word(changes[1])


def read_entry(word):
    """The entry of a word that has its form."""
    return None if word == "-" else tuple([int(change) for change in word.split("/")])


def read_row(text, index):
    """The row of a table that is written at an index of a text."""
    words = text.split(" ")
    if len(words) != 4 or not is_number_word(words[0]) or not all([has_entry_form(word) for word in words[1:]]):
        raise BadText(index)
    return (int(words[0]), read_entry(words[1]), read_entry(words[2]), read_entry(words[3]))


def read_book(text):
    """The book that a text writes."""
    if not isinstance(text, str):
        raise BadText(0)
    rows = text.split("; ")
    parts = read_parts(rows[0].split(" "))
    if parts is None:
        raise BadText(0)
    table = [read_row(row, index + 1) for index, row in enumerate(rows[1:])]
    return Book(parts["low"], parts["high"], table,
                fresh=parts["fresh"], times=parts["times"], bonus=parts["bonus"])


def read_games(text):
    """The games that a text writes."""
    if not isinstance(text, str):
        raise BadText(0)
    games = []
    if text == "":
        return games
    for index, row in enumerate(text.split("; ")):
        words = row.split(" ")
        if len(words) != 3 or not is_name(words[0]) or not is_name(words[1]) or not is_result(words[2]):
            raise BadText(index)
        games.append((words[0], words[1], words[2]))
    return games
