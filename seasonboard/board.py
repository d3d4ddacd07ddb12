"""What lies on the table, and what may be asked of it without changing it."""

LAND = 0
SEA = 1

NOBODY = -1
POWERS = (0, 1, 2, 3, 4, 5, 6)

NO_ORDER = 0
ORDER_GO = 1
ORDER_LEAVE = 2

MOST_PROVINCES = 40
MOST_LINKS = 300
MOST_UNITS = 24


class Province:
    """A province; home and owner are NOBODY where there is none."""

    def __init__(self, kind, centre, home):
        self.kind = kind
        self.centre = centre
        self.home = home
        self.owner = NOBODY


class Unit:
    """An army (fleet is 0) or a fleet (fleet is 1) of a power, at its place."""

    def __init__(self, power, fleet, province, shore):
        self.power = power
        self.fleet = fleet
        self.province = province
        self.shore = shore


class DrivenUnit:
    """A unit driven out of its place, from where its driver came, and its order."""

    def __init__(self, unit, origin):
        self.unit = unit
        self.origin = origin
        self.order = NO_ORDER
        self.goal = None

    def order_to_go(self, q, s):
        self.order = ORDER_GO
        self.goal = (q, s)

    def order_to_leave(self):
        self.order = ORDER_LEAVE
        self.goal = None


class Board:
    """All that a line of calls changes.

    Units, driven units and raises (the units to be raised) are kept by province,
    so that there can't be two in one; barred provinces and drops are dicts of True.
    """

    def __init__(self):
        self.wipe()

    def wipe(self):
        self.provinces = []
        self.land_links = {}
        self.sea_links = {}
        self.units = {}
        self.driven = {}
        self.barred = {}
        self.raises = {}
        self.drops = {}

    def forget_raises_and_drops(self):
        self.raises = {}
        self.drops = {}


def land_key(p, q):
    """The one key of a land link, whichever end is told first."""
    return (p, q) if p < q else (q, p)


def sea_key(p, s, q, t):
    """The one key of a sea link, whichever end is told first; p is never q."""
    return (p, s, q, t) if p < q else (q, t, p, s)


def land_linked(board, p, q):
    return land_key(p, q) in board.land_links


def sea_linked(board, p, s, q, t):
    return sea_key(p, s, q, t) in board.sea_links


def is_of_kind(board, p, kind):
    return board.provinces[p].kind == kind


def is_wrong_kind(board, fleet, p, s):
    if fleet == 1:
        return is_of_kind(board, p, LAND)
    return is_of_kind(board, p, SEA) or s != 0


def is_full_of_units(board):
    return len(board.units) + len(board.driven) >= MOST_UNITS


def units_of(board, power):
    return [unit for unit in board.units.values() if unit.power == power]


def in_order_of_provinces(units):
    """The units of a dict by province."""
    return [units[p] for p in sorted(units)]
