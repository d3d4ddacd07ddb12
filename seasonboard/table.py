"""The calls on a table, and how a line of them is read and answered."""

from seasonboard.board import LAND, SEA, NOBODY, MOST_PROVINCES, MOST_LINKS, MOST_UNITS
from seasonboard.board import Board, DrivenUnit, Province, Unit
from seasonboard.board import land_key, land_linked, sea_key, sea_linked
from seasonboard.board import in_order_of_provinces, is_full_of_units, is_of_kind, is_wrong_kind, units_of
from seasonboard.distance import disorder_of, distances
from seasonboard.driven_out import arrivals, choices_of, end_driven
from seasonboard.settling import all_gone, centres_of, drops_of, end_season
from seasonboard.settling import most_raises, needed_drops, raises_of, sites_of

OUT_OF_RANGE = -1
FULL = -2
NOT_FIT = -3
THERE_ALREADY = -4
NOT_THERE = -5
NOT_ALLOWED = -6
SOME_DRIVEN = -7
ENOUGH = -8
NO_DISTANCE = -9

# What stands in the place of a province and shore where a driven unit is gone.
GONE = (-1, 0)


def row(numbers):
    """A row in an answer: how many numbers, then they."""
    return [len(numbers)] + numbers


def rows(parts):
    """Rows in an answer: how many, then the numbers of each."""
    numbers = [len(parts)]
    for part in parts:
        numbers.extend(part)
    return numbers


def rows_of_units(units):
    return rows([(unit.province, unit.power, unit.fleet, unit.shore) for unit in in_order_of_provinces(units)])


def clear(board):
    board.wipe()
    return [0]


def province(board, kind, centre, home):
    if len(board.provinces) >= MOST_PROVINCES:
        return [FULL]
    if centre == 1 and kind == SEA:
        return [NOT_FIT]
    if centre == 0 and home != NOBODY:
        return [NOT_FIT]
    board.provinces.append(Province(kind, centre, home))
    return [len(board.provinces) - 1]


def land(board, p, q):
    if p == q or is_of_kind(board, p, SEA) or is_of_kind(board, q, SEA):
        return [NOT_FIT]
    if land_linked(board, p, q):
        return [THERE_ALREADY]
    if len(board.land_links) >= MOST_LINKS:
        return [FULL]
    board.land_links[land_key(p, q)] = True
    return [0]


def sea(board, p, s, q, t):
    if p == q or is_of_kind(board, p, LAND) or is_of_kind(board, q, LAND):
        return [NOT_FIT]
    if sea_linked(board, p, s, q, t):
        return [THERE_ALREADY]
    if len(board.sea_links) >= MOST_LINKS:
        return [FULL]
    board.sea_links[sea_key(p, s, q, t)] = True
    return [0]


def man(board, power, fleet, p, s):
    if is_wrong_kind(board, fleet, p, s):
        return [NOT_FIT]
    if p in board.units:
        return [THERE_ALREADY]
    if is_full_of_units(board):
        return [FULL]
    board.units[p] = Unit(power, fleet, p, s)
    board.forget_raises_and_drops()
    return [0]


def owner(board, p, power):
    owned = board.provinces[p]
    if owned.centre == 0:
        return [NOT_FIT]
    owned.owner = power
    board.forget_raises_and_drops()
    return [0]


def driven(board, power, fleet, p, s, origin):
    if is_wrong_kind(board, fleet, p, s):
        return [NOT_FIT]
    if p in board.driven:
        return [THERE_ALREADY]
    if is_full_of_units(board):
        return [FULL]
    board.driven[p] = DrivenUnit(Unit(power, fleet, p, s), origin)
    board.forget_raises_and_drops()
    return [0]


def bar(board, p):
    board.barred[p] = True
    return [len(board.barred)]


def choices(board, p):
    if p not in board.driven:
        return [NOT_THERE]
    return rows(choices_of(board, board.driven[p]))


def go(board, p, q, s):
    if p not in board.driven:
        return [NOT_THERE]
    driven_unit = board.driven[p]
    if (q, s) not in choices_of(board, driven_unit):
        return [NOT_ALLOWED]
    driven_unit.order_to_go(q, s)
    return [0]


def leave(board, p):
    if p not in board.driven:
        return [NOT_THERE]
    driven_unit = board.driven[p]
    driven_unit.order_to_leave()
    return [0]


def resolve(board):
    goals = arrivals(board)
    outcomes = [(p,) + goals.get(p, GONE) for p in sorted(board.driven)]
    end_driven(board, goals)
    board.forget_raises_and_drops()
    return rows(outcomes)


def take(board):
    if len(board.driven) > 0:
        return [SOME_DRIVEN]
    taken = 0
    for p, unit in board.units.items():
        entered = board.provinces[p]
        if entered.centre == 1 and entered.owner != unit.power:
            entered.owner = unit.power
            taken += 1
    board.forget_raises_and_drops()
    return [taken]


def balance(board, power):
    return [
        len(centres_of(board, power)),
        len(units_of(board, power)),
        len(raises_of(board, power)),
        len(drops_of(board, power)),
    ]


def sites(board, power):
    return row(sites_of(board, power))


def raise_unit(board, power, fleet, p, s):
    if len(board.driven) > 0:
        return [SOME_DRIVEN]
    if p not in sites_of(board, power):
        return [NOT_ALLOWED]
    if is_wrong_kind(board, fleet, p, s):
        return [NOT_FIT]
    if p in board.raises:
        return [THERE_ALREADY]
    if len(raises_of(board, power)) >= most_raises(board, power):
        return [ENOUGH]
    if len(board.units) + len(board.raises) >= MOST_UNITS:
        return [FULL]
    board.raises[p] = Unit(power, fleet, p, s)
    return [0]


def drop(board, p):
    if len(board.driven) > 0:
        return [SOME_DRIVEN]
    if p not in board.units:
        return [NOT_THERE]
    if p in board.drops:
        return [THERE_ALREADY]
    power = board.units[p].power
    if len(drops_of(board, power)) >= needed_drops(board, power):
        return [ENOUGH]
    board.drops[p] = True
    return [0]


def settle(board):
    if len(board.driven) > 0:
        return [SOME_DRIVEN]
    gone = all_gone(board)
    numbers = rows_of_units(board.raises) + row(gone)
    end_season(board, gone)
    return numbers


def disorder(board, power):
    return row(disorder_of(board, power))


def far(board, power, p):
    return [distances(board, power).get(p, NO_DISTANCE)]


def men(board):
    return rows_of_units(board.units)


def owners(board):
    # Nobody is one less than power 0, so nobody is told as 0.
    return rows([(p, one.owner - NOBODY) for p, one in enumerate(board.provinces) if one.centre == 1])


# Both stand in the order of the calls' numbers.
CALLS = (
    clear, province, land, sea, man, owner, driven, bar, choices, go, leave,
    resolve, take, balance, sites, raise_unit, drop, settle, disorder, far, men, owners,
)

ARGUMENTS = (
    (),
    ("kind", "zero or one", "power or nobody"),
    ("province", "province"),
    ("province", "shore", "province", "shore"),
    ("power", "zero or one", "province", "shore"),
    ("province", "power or nobody"),
    ("power", "zero or one", "province", "shore", "province or none"),
    ("province",),
    ("province",),
    ("province", "province", "shore"),
    ("province",),
    (),
    (),
    ("power",),
    ("power",),
    ("power", "zero or one", "province", "shore"),
    ("province",),
    (),
    ("power",),
    ("power", "province"),
    (),
    (),
)

# The ranges of provinces are not here: they grow with the board.
RANGES = {
    "kind": (0, 2),
    "zero or one": (0, 1),
    "shore": (0, 3),
    "power": (0, 6),
    "power or nobody": (-1, 6),
}


def range_of(board, argument):
    if argument == "province":
        return (0, len(board.provinces) - 1)
    if argument == "province or none":
        return (-1, len(board.provinces) - 1)
    return RANGES[argument]


def all_in_range(board, number, values):
    for argument, value in zip(ARGUMENTS[number], values):
        ends = range_of(board, argument)
        if value < ends[0] or value > ends[1]:
            return False
    return True


def hand_to(call, board, values):
    """Call it with each value as an argument of its own."""
    if len(values) == 0:
        return call(board)
    if len(values) == 1:
        return call(board, values[0])
    if len(values) == 2:
        return call(board, values[0], values[1])
    if len(values) == 3:
        return call(board, values[0], values[1], values[2])
    if len(values) == 4:
        return call(board, values[0], values[1], values[2], values[3])
    return call(board, values[0], values[1], values[2], values[3], values[4])


def answer(board, number, values):
    """What one call answers: a list of numbers, of a refusal its number alone."""
    if not all_in_range(board, number, values):
        return [OUT_OF_RANGE]
    return hand_to(CALLS[number], board, values)


def answers(calls):
    """For each call of the line: how many numbers it answers, then these."""
    board = Board()
    told = []
    start = 0
    while start < len(calls):
        number = calls[start]
        end = start + 1 + len(ARGUMENTS[number])
        numbers = answer(board, number, calls[start + 1:end])
        told.append(len(numbers))
        told.extend(numbers)
        start = end
    return told
