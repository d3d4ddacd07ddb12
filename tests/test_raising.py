"""The calls raise and drop, and promise 3 of raises and drops."""

import itertools
import unittest

from lines import ARMY, COAST, FLEET, GIVEN, LAND, SEASON, last, provinces, run, shown


def homes(power, count, kind=COAST):
    """Calls that make homes of the power; the owner is told by another call."""
    return [("province", kind, 1, power)] * count


class Raise(unittest.TestCase):
    def test_each_kind_of_unit(self):
        for fleet, p, s in ((ARMY, 0, 0), (ARMY, 1, 0), (FLEET, 1, 0), (FLEET, 1, 3)):
            told = run(SEASON + [("raise", 0, fleet, p, s), ("balance", 0), ("settle",)])[-3:]
            self.assertEqual(told[:2], [[0], [4, 1, 1, 0]])
            self.assertEqual(told[2][:5], [1, p, 0, fleet, s])

    def test_units_are_driven_out(self):
        self.assertEqual(last(SEASON + [("driven", 3, ARMY, 3, 0, -1), ("raise", 0, ARMY, 0, 0)]), [-7])

    def test_no_site(self):
        for power, p in ((0, 2), (0, 3), (0, 4), (0, 6), (1, 0), (1, 4), (2, 0)):
            self.assertEqual(last(SEASON + [("raise", power, ARMY, p, 0)]), [-6])
        self.assertEqual(last(SEASON + [("owner", 0, -1), ("raise", 0, ARMY, 0, 0)]), [-6])
        self.assertEqual(last(SEASON + [("owner", 0, 1), ("raise", 1, ARMY, 0, 0)]), [-6])
        self.assertEqual(last(SEASON + [("man", 3, ARMY, 0, 0), ("raise", 0, ARMY, 0, 0)]), [-6])

    def test_wrong_kind(self):
        for fleet, p, s in ((FLEET, 0, 0), (FLEET, 0, 2), (ARMY, 0, 1), (ARMY, 1, 3)):
            self.assertEqual(last(SEASON + [("raise", 0, fleet, p, s)]), [-3])

    def test_there_already(self):
        for fleet, s in ((FLEET, 2), (FLEET, 0), (ARMY, 0)):
            self.assertEqual(last(GIVEN + [("raise", 0, fleet, 1, s)]), [-4])

    def test_as_many_as_it_may(self):
        for count, units in ((5, 2), (5, 4), (5, 5), (5, 6), (3, 0)):
            made = homes(2, count) + provinces(*[LAND] * units) + [("owner", p, 2) for p in range(count)]
            made += [("man", 2, ARMY, count + k, 0) for k in range(units)]
            told = run(made + [("raise", 2, ARMY, p, 0) for p in range(count)])[-count:]
            free = max(0, count - units)
            self.assertEqual(told, [[0]] * free + [[-8]] * (count - free))

    def test_centres_that_are_no_homes_count_for_it(self):
        made = homes(2, 1) + [("province", LAND, 1, -1)] + provinces(LAND) + [("owner", 0, 2), ("man", 2, ARMY, 2, 0)]
        self.assertEqual(last(made + [("raise", 2, ARMY, 0, 0)]), [-8])
        self.assertEqual(last(made + [("owner", 1, 2), ("raise", 2, ARMY, 0, 0)]), [0])

    def test_another_power_counts_by_itself(self):
        made = homes(0, 2) + homes(1, 2) + provinces(LAND) + [("owner", 0, 0), ("owner", 1, 0)]
        made += [("owner", 2, 1), ("owner", 3, 1), ("man", 1, ARMY, 4, 0)]
        raises = [("raise", 0, ARMY, 0, 0), ("raise", 1, ARMY, 3, 0), ("raise", 0, ARMY, 1, 0), ("raise", 1, ARMY, 2, 0)]
        self.assertEqual(run(made + raises)[-4:], [[0], [0], [0], [-8]])

    def test_twenty_four_units_and_raises_together(self):
        for units in (24, 23, 20, 1, 0):
            made = homes(0, 28 - units) + provinces(*[LAND] * units) + [("owner", p, 0) for p in range(28 - units)]
            made += [("man", 1, ARMY, 28 - units + k, 0) for k in range(units)]
            told = run(made + [("raise", 0, ARMY, p, 0) for p in range(28 - units)])[len(made):]
            self.assertEqual(told, [[0]] * (24 - units) + [[-2]] * 4)

    def test_raises_of_all_powers_count_together(self):
        made = homes(0, 20) + homes(1, 20) + [("owner", p, p // 20) for p in range(40)]
        raises = [("raise", 0, ARMY, p, 0) for p in range(20)] + [("raise", 1, ARMY, p, 0) for p in range(20, 25)]
        told = run(made + raises + [("settle",), ("men",), ("raise", 1, ARMY, 39, 0)])
        self.assertEqual(told[len(made):-3], [[0]] * 24 + [[-2]])
        self.assertEqual([told[-3][0], told[-2][0], told[-1]], [24, 24, [-2]])

    def test_order_of_refusals(self):
        driven = [("driven", 3, ARMY, 3, 0, -1)]
        self.assertEqual(last(SEASON + driven + [("raise", 7, ARMY, 4, 1)]), [-1])
        self.assertEqual(last(SEASON + driven + [("raise", 0, ARMY, 4, 1)]), [-7])
        self.assertEqual(last(SEASON + [("raise", 0, FLEET, 3, 0)]), [-6])
        self.assertEqual(last(SEASON + [("raise", 0, ARMY, 5, 0)]), [-6])
        self.assertEqual(last(GIVEN + [("raise", 0, ARMY, 1, 1)]), [-3])
        one = homes(0, 2) + provinces(LAND) + [("owner", 0, 0), ("owner", 1, 0), ("man", 0, ARMY, 2, 0)]
        one += [("raise", 0, ARMY, 0, 0)]
        self.assertEqual(last(one + [("raise", 0, ARMY, 0, 1)]), [-3])
        self.assertEqual(last(one + [("raise", 0, ARMY, 0, 0)]), [-4])
        self.assertEqual(last(one + [("raise", 0, ARMY, 1, 1)]), [-3])
        self.assertEqual(last(one + [("raise", 0, ARMY, 1, 0)]), [-8])

    def test_full_comes_last(self):
        made = homes(0, 3) + provinces(*[LAND] * 23) + [("owner", 0, 0), ("owner", 1, 0), ("owner", 2, 0)]
        made += [("man", 0, ARMY, 3, 0)] + [("man", 1, ARMY, 4 + k, 0) for k in range(22)] + [("raise", 0, ARMY, 0, 0)]
        self.assertEqual(last(made + [("raise", 0, ARMY, 1, 0)]), [-2])
        self.assertEqual(last(made + [("raise", 0, ARMY, 1, 2)]), [-3])
        self.assertEqual(last(made + [("raise", 0, ARMY, 0, 0)]), [-4])
        short = made[:28] + [("owner", 2, -1)] + made[29:]
        self.assertEqual(last(short + [("raise", 0, ARMY, 1, 0)]), [-8])


class Drop(unittest.TestCase):
    def test_ordered(self):
        for p in (4, 6, 7):
            self.assertEqual(run(SEASON + [("drop", p), ("balance", 1)])[-2:], [[0], [1, 3, 0, 1]])

    def test_units_are_driven_out(self):
        self.assertEqual(last(SEASON + [("driven", 3, ARMY, 3, 0, -1), ("drop", 6)]), [-7])

    def test_no_unit_there(self):
        for p in (0, 3, 5):
            self.assertEqual(last(SEASON + [("drop", p)]), [-5])
        self.assertEqual(last(GIVEN + [("drop", 1)]), [-5])

    def test_ordered_already(self):
        self.assertEqual(last(GIVEN + [("drop", 6)]), [-4])

    def test_as_many_as_it_has_to(self):
        self.assertEqual(run(SEASON + [("drop", 4), ("drop", 7), ("drop", 6)])[-3:], [[0], [0], [-8]])
        self.assertEqual(last(SEASON + [("drop", 2)]), [-8])
        for centres in range(4):
            made = [("province", LAND, 1, -1)] * centres + provinces(LAND, LAND, LAND)
            made += [("owner", p, 3) for p in range(centres)]
            made += [("man", 3, ARMY, centres + k, 0) for k in range(3)]
            told = run(made + [("drop", centres + k) for k in range(3)])[-3:]
            self.assertEqual(told, [[0]] * (3 - centres) + [[-8]] * centres)

    def test_another_power_counts_by_itself(self):
        made = provinces(LAND, LAND) + [("province", LAND, 1, -1)] + provinces(LAND) + [("owner", 2, 1)]
        made += [("man", 0, ARMY, 0, 0), ("man", 1, ARMY, 1, 0), ("man", 1, ARMY, 2, 0), ("man", 0, ARMY, 3, 0)]
        told = run(made + [("drop", 0), ("drop", 1), ("drop", 3), ("drop", 2)])[-4:]
        self.assertEqual(told, [[0], [0], [0], [-8]])

    def test_order_of_refusals(self):
        driven = SEASON + [("driven", 3, ARMY, 3, 0, -1)]
        self.assertEqual(last(driven + [("drop", 8)]), [-1])
        self.assertEqual(last(driven + [("drop", 0)]), [-7])
        self.assertEqual(last(driven + [("drop", 2)]), [-7])
        # 6 is ordered and there are as many as it has to drop.
        self.assertEqual(last(GIVEN + [("drop", 7), ("drop", 6)]), [-4])


class Refused(unittest.TestCase):
    def test_nothing_changes(self):
        calls = [
            (("raise", 0, ARMY, 8, 0), -1), (("raise", 0, ARMY, 3, 0), -6), (("raise", 0, FLEET, 0, 0), -3),
            (("raise", 0, ARMY, 1, 0), -4), (("raise", 1, ARMY, 0, 0), -6),
            (("drop", -1), -1), (("drop", 0), -5), (("drop", 6), -4), (("drop", 2), -8),
        ]
        for call, number in calls:
            self.assertEqual(last(GIVEN + [call]), [number])
            self.assertEqual(shown(GIVEN + [call]), shown(GIVEN))
            self.assertEqual(last(GIVEN + [call, ("settle",)]), last(GIVEN + [("settle",)]))


class OrderOfRaisesAndDrops(unittest.TestCase):
    def test_it_does_not_matter_to_what_comes_of_them(self):
        given = [("raise", 0, ARMY, 0, 0), ("raise", 0, FLEET, 1, 2), ("drop", 4), ("drop", 6)]
        for some in itertools.permutations(given):
            calls = SEASON + list(some) + [("settle",)]
            self.assertEqual(run(calls)[-5:-1], [[0]] * 4)
            self.assertEqual(last(calls), [2, 0, 0, 0, 0, 1, 0, 1, 2, 2, 4, 6])
            self.assertEqual(shown(calls)[0], [4, 0, 0, 0, 0, 1, 0, 1, 2, 2, 0, 0, 0, 7, 1, 1, 1])

    def test_nor_when_some_are_lacking(self):
        for some in itertools.permutations([("raise", 0, ARMY, 0, 0), ("raise", 0, FLEET, 1, 0), ("drop", 4)]):
            self.assertEqual(last(SEASON + list(some) + [("settle",)]), [2, 0, 0, 0, 0, 1, 0, 1, 0, 2, 4, 7])


if __name__ == "__main__":
    unittest.main()
