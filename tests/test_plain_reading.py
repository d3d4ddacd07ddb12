"""Many lines, each answered also by a plain second reading of the document and compared."""

import random
import unittest

from lines import HIGHEST, LOWEST, NUMBERS, flat, run


class Reading:
    """Keeps everything in lists of tuples and looks through them anew at each call."""

    def __init__(self):
        self.clear()

    def clear(self):
        self.lands, self.seas, self.units, self.out, self.barred = [], [], [], [], []
        self.provinces, self.owned = [], []
        self.orders = {}
        return self.forget([0])

    def forget(self, told):
        self.raised, self.dropped = [], []
        return told

    def ranges(self, name):
        p, shore, power, fleet = range(len(self.provinces)), range(4), range(7), range(2)
        return {
            "clear": [], "province": [range(3), range(2), range(-1, 7)], "land": [p, p],
            "sea": [p, shore, p, shore], "man": [power, fleet, p, shore], "owner": [p, range(-1, 7)],
            "driven": [power, fleet, p, shore, range(-1, len(p))], "bar": [p], "choices": [p],
            "go": [p, p, shore], "leave": [p], "resolve": [], "take": [], "balance": [power], "sites": [power],
            "raise": [power, fleet, p, shore], "drop": [p], "settle": [], "disorder": [power],
            "far": [power, p], "men": [], "owners": [],
        }[name]

    def answer(self, call):
        ranges = self.ranges(call[0])
        if any(value not in allowed for value, allowed in zip(call[1:], ranges, strict=True)):
            return [-1]
        if call[0] in ("take", "raise", "drop", "settle") and self.out:
            return [-7]
        return getattr(self, "raise_unit" if call[0] == "raise" else call[0])(*call[1:])

    def province(self, kind, centre, home):
        if len(self.provinces) == 40:
            return [-2]
        if (centre and kind == 1) or (home >= 0 and not centre):
            return [-3]
        self.provinces.append((kind, centre, home))
        return [len(self.provinces) - 1]

    def link(self, links, ends, shut):
        if ends[0][0] == ends[1][0] or any(self.provinces[end[0]][0] == shut for end in ends):
            return [-3]
        if any(set(ends) == set(link) for link in links):
            return [-4]
        if len(links) == 300:
            return [-2]
        links.append(ends)
        return [0]

    def land(self, p, q):
        return self.link(self.lands, ((p, 0), (q, 0)), 1)

    def sea(self, p, s, q, t):
        return self.link(self.seas, ((p, s), (q, t)), 0)

    def wrong(self, fleet, p, s):
        return (fleet, self.provinces[p][0]) in ((0, 1), (1, 0)) or (not fleet and s)

    def put(self, units, unit):
        power, fleet, p, s = unit[:4]
        if self.wrong(fleet, p, s):
            return [-3]
        if [other for other in units if other[2] == p]:
            return [-4]
        if len(self.units + self.out) == 24:
            return [-2]
        units.append(unit)
        return self.forget([0])

    def man(self, *unit):
        return self.put(self.units, unit)

    def driven(self, *unit):
        return self.put(self.out, unit)

    def owner(self, p, power):
        if not self.provinces[p][1]:
            return [-3]
        self.owned = [pair for pair in self.owned if pair[0] != p] + [(p, power)] * (power >= 0)
        return self.forget([0])

    def bar(self, p):
        self.barred.append(p)
        return [len(set(self.barred))]

    def one_out(self, p):
        return [unit for unit in self.out if unit[2] == p]

    def places(self, p):
        power, fleet, p, s, origin = self.one_out(p)[0]
        links = self.seas if fleet else self.lands
        ends = [b for a, b in links if a == (p, s)] + [a for a, b in links if b == (p, s)]
        shut = self.barred + [origin, p] + [unit[2] for unit in self.units]
        return sorted(end for end in ends if end[0] not in shut)

    def choices(self, p):
        if not self.one_out(p):
            return [-5]
        places = self.places(p)
        return [len(places)] + [number for place in places for number in place]

    def go(self, p, q, s):
        if not self.one_out(p):
            return [-5]
        if (q, s) not in self.places(p):
            return [-6]
        self.orders[p] = (q, s)
        return [0]

    def leave(self, p):
        if not self.one_out(p):
            return [-5]
        self.orders.pop(p, None)
        return [0]

    def resolve(self):
        told, came = [len(self.out)], []
        for power, fleet, p, s, origin in sorted(self.out, key=lambda unit: unit[2]):
            place = self.orders.get(p, (-1, 0))
            rivals = [other for other in self.orders if other != p and self.orders[other][0] == place[0]]
            if rivals or place not in self.places(p):
                place = (-1, 0)
            else:
                came.append((power, fleet) + place)
            told += (p,) + place
        self.units += came
        self.out, self.barred, self.orders = [], [], {}
        return self.forget(told)

    def take(self):
        before = dict(self.owned)
        for power, fleet, p, s in self.units:
            self.owner(p, power)
        after = dict(self.owned)
        return self.forget([sum(before.get(p) != after[p] for p in after)])

    def count(self, power):
        """How many more units than centres it has."""
        return len(self.units_of(power)) - sum(pair[1] == power for pair in self.owned)

    def units_of(self, power):
        return [unit for unit in self.units if unit[0] == power]

    def balance(self, power):
        drops = [unit for unit in self.units_of(power) if unit[2] in self.dropped]
        units = len(self.units_of(power))
        return [units - self.count(power), units, sum(unit[0] == power for unit in self.raised), len(drops)]

    def sites(self, power):
        homes = {p for p, one in enumerate(self.provinces) if one[2] == power}
        free = homes & {p for p, owner in self.owned if owner == power} - {unit[2] for unit in self.units}
        return [len(free)] + sorted(free)

    def raise_unit(self, power, fleet, p, s):
        if p not in self.sites(power)[1:]:
            return [-6]
        if self.wrong(fleet, p, s):
            return [-3]
        if p in [unit[2] for unit in self.raised]:
            return [-4]
        if self.balance(power)[2] + self.count(power) >= 0:
            return [-8]
        if len(self.units + self.raised) == 24:
            return [-2]
        self.raised.append((power, fleet, p, s))
        return [0]

    def drop(self, p):
        here = [unit for unit in self.units if unit[2] == p]
        if not here:
            return [-5]
        if p in self.dropped:
            return [-4]
        if self.balance(here[0][0])[3] >= self.count(here[0][0]):
            return [-8]
        self.dropped.append(p)
        return [0]

    def settle(self):
        gone = set(self.dropped)
        for power in range(7):
            for p in self.disorder(power)[1:]:
                # One by one, till there are no more units than centres.
                if len([unit for unit in self.units_of(power) if unit[2] in gone]) < self.count(power):
                    gone.add(p)
        told = self.rows_of(self.raised) + [len(gone)] + sorted(gone)
        self.units = [unit for unit in self.units if unit[2] not in gone] + self.raised
        return self.forget(told)

    def disorder(self, power):
        order = []
        for power, fleet, p, s in sorted(self.units_of(power), key=lambda unit: unit[2]):
            distance = self.far(power, p)[0]
            order.append((0 if distance == -9 else 1, -distance, 0 if fleet else 1, p))
        return [len(order)] + [rank[-1] for rank in sorted(order)]

    def far(self, power, p):
        """Goes from p to the homes, not from the homes to p."""
        reached, before = {p}, None
        steps = 0
        while reached != before:
            if [q for q in reached if self.provinces[q][2] == power]:
                return [steps]
            before = set(reached)
            for a, b in self.lands + self.seas:
                if a[0] in before or b[0] in before:
                    reached |= {a[0], b[0]}
            steps += 1
        return [-9]

    def rows_of(self, units):
        told = [len(units)]
        for power, fleet, p, s in sorted(units, key=lambda unit: unit[2]):
            told += [p, power, fleet, s]
        return told

    def men(self):
        return self.rows_of(self.units)

    def owners(self):
        centres = [p for p, one in enumerate(self.provinces) if one[1]]
        return [len(centres)] + [number for p in centres for number in (p, dict(self.owned).get(p, -1) + 1)]


# Some lines are mostly of units driven out, some of raising and dropping, some fill the board.
OUT = {
    "clear": 0.03, "province": 1, "land": 14, "sea": 14, "man": 5, "owner": 2, "driven": 14, "bar": 0.5,
    "choices": 14, "go": 20, "leave": 2, "resolve": 3, "take": 1, "balance": 1, "sites": 1, "raise": 1, "drop": 1,
    "settle": 1, "disorder": 1, "far": 1, "men": 2, "owners": 1,
}
SETTLING = {
    "clear": 0.02, "province": 1, "land": 8, "sea": 8, "man": 6, "owner": 5, "driven": 0.5, "bar": 0.5,
    "choices": 0.5, "go": 1, "leave": 0.1, "resolve": 1, "take": 0.5, "balance": 4, "sites": 4, "raise": 40, "drop": 16,
    "settle": 3, "disorder": 4, "far": 4, "men": 3, "owners": 2,
}
CROWDING = dict(SETTLING, man=8, owner=0.1, driven=0.1, resolve=0.2, take=0.1, settle=4)
CROWDING_OUT = dict(OUT, resolve=0.2, settle=0.1)
ALL_WEIGHTS = (OUT, SETTLING, CROWDING, CROWDING_OUT)


def chosen_value(source, allowed):
    if source.random() < 0.01 or not allowed:
        return source.choice([LOWEST, HIGHEST, -2, -1, 7, 40])
    # The low ones more often, so that shores and provinces meet again.
    return min(source.choice(allowed), source.choice(allowed))


def chosen_call(source, reading, weights):
    name = source.choices(list(weights), list(weights.values()))[0]
    call = [name] + [chosen_value(source, allowed) for allowed in reading.ranges(name)]
    if name in ("choices", "go", "leave") and reading.out and source.random() < 0.8:
        call[1] = source.choice(reading.out)[2]
        places = reading.places(call[1])
        if name == "go" and places and source.random() < 0.5:
            call[2:] = source.choice(places)
    if name == "raise" and call[1] in range(7) and source.random() < 0.8:
        call[3] = source.choice(reading.sites(call[1])[1:] or [call[3]])
        call[4] *= call[2]
    if name == "drop" and reading.units and source.random() < 0.8:
        call[1] = source.choice(reading.units)[2]
    return tuple(call)


def first_calls(source, weights):
    """Plain provinces, or else homes of a few powers, most of them owned."""
    count = source.choice([0, 4, 12, 40])
    if weights in (OUT, CROWDING_OUT):
        return [("province", source.choice([0, 1, 2, 2]), 0, -1) for k in range(count)]
    homes = count // 2 if weights is SETTLING else count
    calls = [("province", source.choice([0, 2]), 1, source.choice([-1, 0, 0, 1, 1, 6])) for k in range(homes)]
    calls += [("province", source.choice([0, 1, 2]), 0, -1) for k in range(homes, count)]
    if source.random() < 0.7:
        calls += [("owner", p, call[3]) for p, call in enumerate(calls[:homes])]
    return calls


def plain_line(source, weights, count):
    """A line of calls, and what the plain reading answers to each."""
    reading = Reading()
    calls = first_calls(source, weights)
    told = [reading.answer(call) for call in calls]
    for k in range(min(count, 400 - len(calls))):
        calls.append(chosen_call(source, reading, weights))
        told.append(reading.answer(calls[-1]))
    return calls, told


class Compared(unittest.TestCase):
    def test_each_answer_is_the_same(self):
        source = random.Random(20)
        seen = set()
        for count in [30] * 40 + [150] * 40 + [400] * 40:
            for weights in ALL_WEIGHTS:
                calls, told = plain_line(source, weights, count)
                seen.update((call[0], min(part[0], 0)) for call, part in zip(calls, told))
                self.assertEqual(run(calls), told, flat(calls))
        self.assertEqual({name for name, number in seen if number == 0}, set(NUMBERS))
        common = {("go", -6), ("go", -5), ("sea", -4), ("land", -4), ("man", -4), ("man", -2), ("driven", -2)}
        common |= {("take", -7), ("settle", -7), ("raise", -7), ("drop", -7), ("far", -9)}
        common |= {("raise", number) for number in (-1, -2, -3, -4, -6, -8)}
        common |= {("drop", number) for number in (-1, -4, -5, -8)}
        self.assertLessEqual(common, seen)


class Promised(unittest.TestCase):
    """Promises 1 and 2 behind each call of many lines, as the program itself shows them."""

    def test_no_two_units_in_one_province_and_no_more_units_than_centres(self):
        source = random.Random(21)
        asked = [("men",)] + [("balance", power) for power in range(7)]
        settled = 0
        for weights in ALL_WEIGHTS * 20:
            calls = plain_line(source, weights, 30 + source.randrange(60))[0]
            watched = list(asked)
            for call in calls:
                watched += [call] + asked
            told = run(watched)
            for k in range(0, len(told) - 8, 9):
                before, part, after = told[k:k + 8], told[k + 8], told[k + 9:k + 17]
                stand = after[0][1::4]
                self.assertEqual(len(stand), len(set(stand)))
                self.assertLessEqual(len(stand), 24)
                if watched[k + 8] == ("settle",) and part[0] >= 0:
                    settled += 1
                    self.check_settled(before, after)
        self.assertGreater(settled, 20)

    def check_settled(self, before, after):
        for old, new in zip(before[1:], after[1:]):
            self.assertLessEqual(new[1], new[0])
            self.assertEqual(new, [old[0], min(old[0], old[1]) + old[2], 0, 0])


def line_before_orders(source, weights, names):
    """A line without any of these calls, and the plain reading behind it."""
    reading = Reading()
    calls = []
    only = {name: weights[name] for name in weights if name not in names}
    ahead = first_calls(source, weights) + [("driven", p % 7, p % 2, p, 0, -1) for p in range(5) if weights is OUT]
    for k in range(len(ahead) + 120):
        calls.append(ahead[k] if k < len(ahead) else chosen_call(source, reading, only))
        reading.answer(calls[-1])
    return calls, reading


def orders_that_hold(source, reading, weights, names):
    """Orders by what they are given to: of several to one unit the last one counts, so each is given one alone."""
    given = {}
    only = {name: weights[name] for name in names}
    for k in range(60):
        order = chosen_call(source, reading, only)
        key = order if order[0] == "raise" else order[1]
        if key not in given and reading.answer(order)[0] == 0:
            given[key] = order
    return list(given.values())


class OrderOfOrders(unittest.TestCase):
    """Promise 3: orders, raises and drops that hold are given again in other orders."""

    def check(self, weights, names, end):
        source = random.Random(22)
        several = 0
        for k in range(40):
            calls, reading = line_before_orders(source, weights, names + ("clear", "resolve", "settle"))
            if end == "settle":
                calls.append(("resolve",))
                reading.answer(calls[-1])
            given = orders_that_hold(source, reading, weights, names)
            told = self.ends(calls, given, end)
            several += len(given) > 1
            for j in range(4):
                self.assertEqual(self.ends(calls, source.sample(given, len(given)), end), told)
        self.assertGreater(several, 15)

    def ends(self, calls, given, end):
        told = run(calls + given + [(end,), ("men",), ("owners",)])
        self.assertEqual(told[len(calls):-3], [[0]] * len(given))
        return told[-3:]

    def test_of_orders_to_the_driven(self):
        self.check(OUT, ("go", "leave"), "resolve")

    def test_of_raises_and_drops(self):
        self.check(SETTLING, ("raise", "drop"), "settle")
        self.check(CROWDING, ("raise", "drop"), "settle")


if __name__ == "__main__":
    unittest.main()
