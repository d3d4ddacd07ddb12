"""Where a unit that was driven out may go."""

from seasonboard.board import SEA, is_of_kind, land_linked, sea_linked

SHORES = (0, 1, 2, 3)


def choices_of(board, driven_unit):
    """The places to which it may go, in the order of provinces, then of shores."""
    places = []
    for q in range(len(board.provinces)):
        if may_enter(board, driven_unit, q):
            places.extend(reached_places(board, driven_unit.unit, q))
    return places


def may_enter(board, driven_unit, q):
    if q == driven_unit.unit.province or q == driven_unit.origin:
        return False
    return q not in board.barred and q not in board.units


def reached_places(board, unit, q):
    if unit.fleet == 1:
        return [(q, t) for t in SHORES if sea_linked(board, unit.province, unit.shore, q, t)]
    if is_of_kind(board, q, SEA) or not land_linked(board, unit.province, q):
        return []
    return [(q, 0)]
