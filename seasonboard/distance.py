"""How far provinces are from a power's homes, and in what order its units go in disorder."""

from seasonboard.board import MOST_PROVINCES, units_of


def linked_provinces(board):
    """For each province those that a link of any kind leads to, at whatever shores."""
    beside = [[] for one in board.provinces]
    pairs = [(key[0], key[1]) for key in board.land_links]
    pairs.extend([(key[0], key[2]) for key in board.sea_links])
    for p, q in pairs:
        beside[p].append(q)
        beside[q].append(p)
    return beside


def distances(board, power):
    """The distance of each province that has one from the power's homes, by province."""
    beside = linked_provinces(board)
    found = {}
    reached = [p for p, one in enumerate(board.provinces) if one.home == power]
    steps = 0
    while len(reached) > 0:
        following = []
        for p in reached:
            if p not in found:
                found[p] = steps
                following.extend(beside[p])
        reached = following
        steps += 1
    return found


def rank_in_disorder(unit, found):
    """What sorts before another's if the unit goes before the other."""
    # No way is as long as there may be provinces, so a unit without a distance goes before all others.
    return (-found.get(unit.province, MOST_PROVINCES), -unit.fleet, unit.province)


def disorder_of(board, power):
    """The provinces of the power's units, the ones that go first ahead."""
    found = distances(board, power)
    ranks = [rank_in_disorder(unit, found) for unit in units_of(board, power)]
    return [rank[2] for rank in sorted(ranks)]
