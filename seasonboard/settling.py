"""What a power may raise and has to drop, and what is done when it's settled."""

from seasonboard.board import POWERS, units_of
from seasonboard.distance import disorder_of


def centres_of(board, power):
    return [p for p, one in enumerate(board.provinces) if one.owner == power]


def sites_of(board, power):
    """The power's homes that it owns and in which no unit is, rising."""
    return [p for p in centres_of(board, power) if board.provinces[p].home == power and p not in board.units]


def raises_of(board, power):
    return [unit for unit in board.raises.values() if unit.power == power]


def drops_of(board, power):
    return [p for p in board.drops if board.units[p].power == power]


def most_raises(board, power):
    return max(0, len(centres_of(board, power)) - len(units_of(board, power)))


def needed_drops(board, power):
    return max(0, len(units_of(board, power)) - len(centres_of(board, power)))


def gone_of(board, power):
    """The provinces of the power's units that are gone when it's settled."""
    ordered = drops_of(board, power)
    lacking = needed_drops(board, power) - len(ordered)
    others = [p for p in disorder_of(board, power) if p not in board.drops]
    return ordered + others[:lacking]


def all_gone(board):
    """The provinces of all units that are gone when it's settled, rising."""
    gone = []
    for power in POWERS:
        gone.extend(gone_of(board, power))
    return sorted(gone)


def end_season(board, gone):
    """The gone ones leave the board and the raised ones stand on it; then nothing is to be raised or dropped."""
    for p in gone:
        board.units.pop(p)
    board.units.update(board.raises)
    board.forget_raises_and_drops()
