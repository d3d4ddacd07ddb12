"""Helps the tests to write lines of calls, to read their answers, and to look into a board."""

from seasonboard.board import Board
from seasonboard.table import answer, answers

NUMBERS = {
    "clear": 0, "province": 1, "land": 2, "sea": 3, "man": 4, "owner": 5,
    "driven": 6, "bar": 7, "choices": 8, "go": 9, "leave": 10, "resolve": 11,
    "take": 12, "balance": 13, "sites": 14, "raise": 15, "drop": 16, "settle": 17,
    "disorder": 18, "far": 19, "men": 20, "owners": 21,
}

LAND, SEA, COAST = 0, 1, 2
ARMY, FLEET = 0, 1
LOWEST = -9223372036854775808
HIGHEST = 9223372036854775807

# Power 0 owns the centres 0 to 3 and has one unit: its sites are 0 and 1, and it may raise 3.
# Power 1 owns centre 4 and has three units, in disorder 7, 6, 4: it has to drop 2.
SEASON = [
    ("province", LAND, 1, 0), ("province", COAST, 1, 0), ("province", COAST, 1, 0), ("province", LAND, 1, -1),
    ("province", COAST, 1, 1), ("province", SEA, 0, -1), ("province", LAND, 0, -1), ("province", COAST, 0, -1),
    ("land", 0, 1), ("land", 1, 2), ("land", 2, 3), ("land", 4, 6), ("sea", 4, 0, 5, 0), ("sea", 5, 0, 7, 1),
    ("owner", 0, 0), ("owner", 1, 0), ("owner", 2, 0), ("owner", 3, 0), ("owner", 4, 1),
    ("man", 0, ARMY, 2, 0), ("man", 1, ARMY, 4, 0), ("man", 1, ARMY, 6, 0), ("man", 1, FLEET, 7, 1),
]

# One unit to be raised and one ordered to be dropped on it.
GIVEN = SEASON + [("raise", 0, FLEET, 1, 2), ("drop", 6)]


def flat(calls):
    """The list of numbers that tells these calls, each a tuple of its name and arguments."""
    numbers = []
    for call in calls:
        numbers.append(NUMBERS[call[0]])
        numbers.extend(call[1:])
    return numbers


def parted(told):
    """The answers of a line, a list for each call."""
    parts = []
    start = 0
    while start < len(told):
        end = start + 1 + told[start]
        parts.append(told[start + 1:end])
        start = end
    return parts


def run(calls):
    parts = parted(answers(flat(calls)))
    assert len(parts) == len(calls)
    return parts


def last(calls):
    return run(calls)[-1]


def provinces(*kinds):
    """Calls that make plain provinces of these kinds."""
    return [("province", kind, 0, -1) for kind in kinds]


def do(board, *call):
    return answer(board, NUMBERS[call[0]], list(call[1:]))


def board_after(calls):
    """A board on which these calls were made, none of them refused."""
    board = Board()
    for call in calls:
        told = do(board, *call)
        assert told[0] >= 0, (call, told)
    return board


def whole(value):
    """All that a board holds, as values that can be compared."""
    if isinstance(value, dict):
        return {key: whole(value[key]) for key in value}
    if isinstance(value, (list, tuple)):
        return [whole(part) for part in value]
    if hasattr(value, "__dict__"):
        return whole(vars(value))
    return value


def shown(calls):
    """What the whole board shows behind these calls: units, owners, and each power's balance."""
    asked = [("men",), ("owners",)] + [("balance", power) for power in range(7)]
    return run(calls + asked)[len(calls):]


def many_land_links(count):
    """40 lands and this many land links between them; 780 would be all."""
    pairs = [(p, q) for p in range(40) for q in range(p + 1, 40)]
    return provinces(*[LAND] * 40) + [("land", p, q) for p, q in pairs[:count]]


def many_sea_links(count):
    """40 seas and this many sea links between them, at all shores."""
    ends = [(p, s, q, t) for p in range(5) for q in range(p + 1, 40) for s in range(4) for t in range(4)]
    return provinces(*[SEA] * 40) + [("sea", *end) for end in ends[:count]]


def crowd(units, driven):
    """40 coasts, with units in the first ones and units driven out of the first ones."""
    calls = provinces(*[COAST] * 40)
    calls += [("man", 0, ARMY, p, 0) for p in range(units)]
    calls += [("driven", 0, ARMY, p, 0, -1) for p in range(driven)]
    return calls
