"""Helps the tests to write lines of calls, to read their answers, and to look into a board."""

from seasonboard.board import Board
from seasonboard.table import answer, answers

NUMBERS = {
    "clear": 0, "province": 1, "land": 2, "sea": 3, "man": 4, "owner": 5,
    "driven": 6, "bar": 7, "choices": 8, "go": 9, "leave": 10,
}

LAND, SEA, COAST = 0, 1, 2
ARMY, FLEET = 0, 1
LOWEST = -9223372036854775808
HIGHEST = 9223372036854775807


def flat(calls):
    """The list of numbers that tells these calls, each a tuple of its name and arguments."""
    numbers = []
    for call in calls:
        numbers.append(NUMBERS[call[0]])
        numbers.extend(call[1:])
    return numbers


def parted(told):
    """The answers of a line, a list for each call."""
    parts = []
    start = 0
    while start < len(told):
        end = start + 1 + told[start]
        parts.append(told[start + 1:end])
        start = end
    return parts


def run(calls):
    parts = parted(answers(flat(calls)))
    assert len(parts) == len(calls)
    return parts


def last(calls):
    return run(calls)[-1]


def provinces(*kinds):
    """Calls that make plain provinces of these kinds."""
    return [("province", kind, 0, -1) for kind in kinds]


def do(board, *call):
    return answer(board, NUMBERS[call[0]], list(call[1:]))


def board_after(calls):
    """A board on which these calls were made, none of them refused."""
    board = Board()
    for call in calls:
        told = do(board, *call)
        assert told[0] >= 0, (call, told)
    return board


def whole(value):
    """All that a board holds, as values that can be compared."""
    if isinstance(value, dict):
        return {key: whole(value[key]) for key in value}
    if isinstance(value, (list, tuple)):
        return [whole(part) for part in value]
    if hasattr(value, "__dict__"):
        return whole(vars(value))
    return value


def many_land_links(count):
    """40 lands and this many land links between them; 780 would be all."""
    pairs = [(p, q) for p in range(40) for q in range(p + 1, 40)]
    return provinces(*[LAND] * 40) + [("land", p, q) for p, q in pairs[:count]]


def many_sea_links(count):
    """40 seas and this many sea links between them, at all shores."""
    ends = [(p, s, q, t) for p in range(5) for q in range(p + 1, 40) for s in range(4) for t in range(4)]
    return provinces(*[SEA] * 40) + [("sea", *end) for end in ends[:count]]


def crowd(units, driven):
    """40 coasts, with units in the first ones and units driven out of the first ones."""
    calls = provinces(*[COAST] * 40)
    calls += [("man", 0, ARMY, p, 0) for p in range(units)]
    calls += [("driven", 0, ARMY, p, 0, -1) for p in range(driven)]
    return calls
