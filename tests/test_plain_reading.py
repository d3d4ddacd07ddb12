"""Many lines, each answered also by a plain second reading of the document and compared."""

import random
import unittest

from lines import HIGHEST, LOWEST, NUMBERS, flat, run


class Reading:
    """Keeps everything in lists of tuples and looks through them anew at each call."""

    def __init__(self):
        self.clear()

    def clear(self):
        self.lands, self.seas, self.units, self.out, self.barred = [], [], [], [], []
        self.provinces = []
        return [0]

    def ranges(self, name):
        p, shore, power, fleet = range(len(self.provinces)), range(4), range(7), range(2)
        return {
            "clear": [], "province": [range(3), range(2), range(-1, 7)], "land": [p, p],
            "sea": [p, shore, p, shore], "man": [power, fleet, p, shore], "owner": [p, range(-1, 7)],
            "driven": [power, fleet, p, shore, range(-1, len(p))], "bar": [p], "choices": [p],
            "go": [p, p, shore], "leave": [p],
        }[name]

    def answer(self, call):
        ranges = self.ranges(call[0])
        if any(value not in allowed for value, allowed in zip(call[1:], ranges, strict=True)):
            return [-1]
        return getattr(self, call[0])(*call[1:])

    def province(self, kind, centre, home):
        if len(self.provinces) == 40:
            return [-2]
        if (centre and kind == 1) or (home >= 0 and not centre):
            return [-3]
        self.provinces.append((kind, centre))
        return [len(self.provinces) - 1]

    def link(self, links, ends, shut):
        if ends[0][0] == ends[1][0] or any(self.provinces[end[0]][0] == shut for end in ends):
            return [-3]
        if any(set(ends) == set(link) for link in links):
            return [-4]
        if len(links) == 300:
            return [-2]
        links.append(ends)
        return [0]

    def land(self, p, q):
        return self.link(self.lands, ((p, 0), (q, 0)), 1)

    def sea(self, p, s, q, t):
        return self.link(self.seas, ((p, s), (q, t)), 0)

    def put(self, units, fleet, p, s, more):
        if (fleet, self.provinces[p][0]) in ((0, 1), (1, 0)) or (not fleet and s):
            return [-3]
        if [unit for unit in units if unit[1] == p]:
            return [-4]
        if len(self.units + self.out) == 24:
            return [-2]
        units.append((fleet, p, s, more))
        return [0]

    def man(self, power, fleet, p, s):
        return self.put(self.units, fleet, p, s, None)

    def driven(self, power, fleet, p, s, origin):
        return self.put(self.out, fleet, p, s, origin)

    def owner(self, p, power):
        return [0] if self.provinces[p][1] else [-3]

    def bar(self, p):
        self.barred.append(p)
        return [len(set(self.barred))]

    def places(self, p):
        fleet, p, s, origin = [unit for unit in self.out if unit[1] == p][0]
        links = self.seas if fleet else self.lands
        ends = [b for a, b in links if a == (p, s)] + [a for a, b in links if b == (p, s)]
        shut = self.barred + [origin, p] + [unit[1] for unit in self.units]
        return sorted(end for end in ends if end[0] not in shut)

    def choices(self, p):
        if not [unit for unit in self.out if unit[1] == p]:
            return [-5]
        places = self.places(p)
        return [len(places)] + [number for place in places for number in place]

    def go(self, p, q, s):
        if not [unit for unit in self.out if unit[1] == p]:
            return [-5]
        return [0] if (q, s) in self.places(p) else [-6]

    def leave(self, p):
        return [0] if [unit for unit in self.out if unit[1] == p] else [-5]


WEIGHTS = {
    "clear": 0.03, "province": 1, "land": 14, "sea": 14, "man": 5, "owner": 2,
    "driven": 14, "bar": 0.3, "choices": 14, "go": 14, "leave": 2,
}


def chosen_value(source, allowed):
    if source.random() < 0.01 or not allowed:
        return source.choice([LOWEST, HIGHEST, -2, -1, 7, 40])
    # The low ones more often, so that shores and provinces meet again.
    return min(source.choice(allowed), source.choice(allowed))


def chosen_call(source, reading):
    name = source.choices(list(WEIGHTS), list(WEIGHTS.values()))[0]
    call = [name] + [chosen_value(source, allowed) for allowed in reading.ranges(name)]
    if name in ("choices", "go", "leave") and reading.out and source.random() < 0.8:
        call[1] = source.choice(reading.out)[1]
        places = reading.places(call[1])
        if name == "go" and places and source.random() < 0.5:
            call[2:] = source.choice(places)
    return tuple(call)


def first_calls(source):
    return [("province", source.choice([0, 1, 2, 2]), 0, -1) for k in range(source.choice([0, 4, 12, 40]))]


class Compared(unittest.TestCase):
    def test_each_answer_is_the_same(self):
        source = random.Random(20)
        seen = set()
        for count in [30] * 60 + [150] * 60 + [360] * 60:
            reading = Reading()
            calls = first_calls(source)
            told = [reading.answer(call) for call in calls]
            for k in range(count):
                calls.append(chosen_call(source, reading))
                told.append(reading.answer(calls[-1]))
                seen.add((calls[-1][0], min(told[-1][0], 0)))
            self.assertEqual(run(calls), told, flat(calls))
        self.assertEqual({name for name, number in seen if number == 0}, set(NUMBERS))
        common = {("go", -6), ("go", -5), ("sea", -4), ("land", -4), ("man", -4), ("man", -2), ("driven", -2)}
        self.assertLessEqual(common, seen)


if __name__ == "__main__":
    unittest.main()
