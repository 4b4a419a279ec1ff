"""Papers of what a hand can come to, and their checker."""

from liftedladders.few import HandMoves, check_told, hand_behind, is_hand, searched
from liftedladders.numbers import is_integer


def few_paper(ways, hand, goal):
    """Moves with a good hand behind them, or hands that show that there are none."""
    check_told(ways, hand, goal)
    indexes, hands = searched(ways, hand, goal)
    return ("never", hands) if indexes is None else ("run", indexes)


def is_run(ways, hand, goal, value):
    """Whether any value is a list of indexes of moves with a good hand behind them."""
    if not isinstance(value, list):
        return False
    behind = hand
    for index in value:
        if not is_integer(index, 0, len(ways) - 1):
            return False
        behind = hand_behind(ways, behind, index)
        if behind is None:
            return False
    return goal(behind)


def is_never(ways, hand, goal, value):
    """Whether any value is a list of hands, the hand among them, none good, that no move leads out of."""
    if not isinstance(value, list) or not all([is_hand(ways, entry) for entry in value]):
        return False
    moves = HandMoves(ways)
    numbers = {moves.written(entry): True for entry in value}
    if moves.written(hand) not in numbers:
        return False
    if any([goal(entry) for entry in value]):
        return False
    return all([behind in numbers for number in numbers for _, behind in moves.onward(number)])


def lets_few(ways, hand, goal, value):
    """Whether any value is a paper of a hand and a goal."""
    check_told(ways, hand, goal)
    if not isinstance(value, tuple) or len(value) != 2 or not isinstance(value[0], str):
        return False
    if value[0] == "run":
        return is_run(ways, hand, goal, value[1])
    return value[0] == "never" and is_never(ways, hand, goal, value[1])
