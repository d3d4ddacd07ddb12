"""Where a unit that was driven out may go, and what comes of it."""

from seasonboard.board import ORDER_GO, SEA, Unit, is_of_kind, land_linked, sea_linked

SHORES = (0, 1, 2, 3)


def choices_of(board, driven_unit):
    """The places to which it may go, in the order of provinces, then of shores."""
    places = []
    for q in range(len(board.provinces)):
        if may_enter(board, driven_unit, q):
            places.extend(reached_places(board, driven_unit.unit, q))
    return places


def may_enter(board, driven_unit, q):
    if q == driven_unit.unit.province or q == driven_unit.origin:
        return False
    return q not in board.barred and q not in board.units


def reached_places(board, unit, q):
    if unit.fleet == 1:
        return [(q, t) for t in SHORES if sea_linked(board, unit.province, unit.shore, q, t)]
    if is_of_kind(board, q, SEA) or not land_linked(board, unit.province, q):
        return []
    return [(q, 0)]


def provinces_ordered_to(board):
    """The province that each order to go names, whether the unit may still go there or not."""
    return [one.goal[0] for one in board.driven.values() if one.order == ORDER_GO]


def arrivals(board):
    """The goal of each driven unit that comes to stand there, by the province that it was driven out of."""
    wanted = provinces_ordered_to(board)
    goals = {}
    for p, driven_unit in board.driven.items():
        if driven_unit.order == ORDER_GO and wanted.count(driven_unit.goal[0]) == 1:
            if driven_unit.goal in choices_of(board, driven_unit):
                goals[p] = driven_unit.goal
    return goals


def end_driven(board, goals):
    """Those with a goal stand there from now on; then nobody is driven out and nothing is barred."""
    for p, goal in goals.items():
        unit = board.driven[p].unit
        board.units[goal[0]] = Unit(unit.power, unit.fleet, goal[0], goal[1])
    board.driven = {}
    board.barred = {}
