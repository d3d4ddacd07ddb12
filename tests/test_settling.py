"""The calls settle, disorder and far, and promise 2."""

import itertools
import unittest

from lines import ARMY, COAST, FLEET, GIVEN, LAND, SEA, SEASON, last, provinces, run, shown

# A home of power 0 and a chain away from it: 0 land 1 land 2, 2 sea 3 sea 4 sea 5, 5 land 6; 7 is without a link.
CHAIN = [("province", LAND, 1, 0)] + provinces(LAND, COAST, SEA, SEA, COAST, LAND, COAST) + [
    ("land", 0, 1), ("land", 2, 1), ("sea", 2, 1, 3, 0), ("sea", 4, 2, 3, 3), ("sea", 4, 0, 5, 3), ("land", 6, 5),
]


def fars(power, count):
    return [("far", power, p) for p in range(count)]


def plain_distance(links, homes, p):
    """A second reading: how many times all links must be followed from the homes till p is reached."""
    reached = set(homes)
    for steps in range(41):
        if p in reached:
            return steps
        reached |= {b for a, b in links if a in reached} | {a for a, b in links if b in reached}
    return -9


class Far(unittest.TestCase):
    def test_by_land_by_sea_and_by_both(self):
        self.assertEqual(run(CHAIN + fars(0, 8))[-8:], [[0], [1], [2], [3], [4], [5], [6], [-9]])

    def test_by_land_links_alone(self):
        made = [("province", LAND, 1, 3)] + provinces(LAND, LAND, LAND)
        made += [("land", 0, 1), ("land", 1, 2), ("land", 2, 3)]
        self.assertEqual(run(made + fars(3, 4))[-4:], [[0], [1], [2], [3]])

    def test_by_sea_links_alone_at_whatever_shores(self):
        made = [("province", COAST, 1, 3)] + provinces(SEA, COAST, SEA)
        made += [("sea", 0, 0, 1, 1), ("sea", 2, 3, 1, 2), ("sea", 3, 0, 2, 1)]
        self.assertEqual(run(made + fars(3, 4))[-4:], [[0], [1], [2], [3]])

    def test_the_least_of_several_ways(self):
        made = [("province", COAST, 1, 0)] + provinces(COAST, COAST, COAST)
        made += [("land", 0, 1), ("land", 1, 2), ("land", 2, 3)]
        self.assertEqual(last(made + [("far", 0, 3)]), [3])
        self.assertEqual(last(made + [("sea", 0, 2, 2, 3), ("far", 0, 3)]), [2])
        self.assertEqual(last(made + [("sea", 0, 2, 3, 3), ("far", 0, 3)]), [1])

    def test_a_land_link_and_a_sea_link_between_the_same_two(self):
        made = [("province", COAST, 1, 0)] + provinces(COAST) + [("land", 0, 1), ("sea", 0, 0, 1, 0), ("sea", 0, 1, 1, 0)]
        self.assertEqual(last(made + [("far", 0, 1)]), [1])

    def test_the_nearest_of_several_homes(self):
        made = [("province", LAND, 1, 0)] + provinces(LAND, LAND, LAND) + [("province", LAND, 1, 0)]
        made += [("land", p, p + 1) for p in range(4)]
        self.assertEqual(run(made + fars(0, 5))[-5:], [[0], [1], [2], [1], [0]])

    def test_a_home_owned_or_not(self):
        for owner in (-1, 0, 5):
            self.assertEqual(run(CHAIN + [("owner", 0, owner), ("far", 0, 0), ("far", 0, 2)])[-2:], [[0], [2]])

    def test_an_owned_centre_that_is_no_home(self):
        made = [("province", LAND, 1, -1), ("owner", 0, 2)]
        self.assertEqual(last(made + [("far", 2, 0)]), [-9])

    def test_no_home_and_no_way(self):
        for power in range(1, 7):
            self.assertEqual(last(CHAIN + [("far", power, 0)]), [-9])
        self.assertEqual(last(CHAIN + [("far", 0, 7)]), [-9])

    def test_a_home_of_another_power(self):
        made = CHAIN + [("province", LAND, 1, 1), ("land", 6, 8)]
        self.assertEqual(run(made + [("far", 0, 8), ("far", 1, 8), ("far", 1, 0)])[-3:], [[7], [0], [7]])

    def test_units_and_bars_are_no_hindrance(self):
        calls = CHAIN + [("man", 1, ARMY, 1, 0), ("bar", 1), ("bar", 2), ("driven", 0, ARMY, 6, 0, 5)]
        self.assertEqual(run(calls + fars(0, 8))[-8:], run(CHAIN + fars(0, 8))[-8:])

    def test_links_made_later_count(self):
        self.assertEqual(run(CHAIN + [("far", 0, 7), ("sea", 7, 0, 2, 0), ("far", 0, 7)])[-3:], [[-9], [0], [3]])

    def test_a_chain_of_forty(self):
        made = [("province", LAND, 1, 6)] + provinces(*[LAND] * 39) + [("land", p + 1, p) for p in range(39)]
        self.assertEqual(run(made + fars(6, 40))[-40:], [[p] for p in range(40)])
        self.assertEqual(last(made[:-1] + [("far", 6, 39)]), [-9])


class Disorder(unittest.TestCase):
    def test_none(self):
        self.assertEqual(run([("disorder", 0)]), [[0]])
        self.assertEqual(last(SEASON + [("disorder", 6)]), [0])
        self.assertEqual(last(CHAIN + [("driven", 0, ARMY, 1, 0, -1), ("disorder", 0)]), [0])

    def test_the_greater_distance_first(self):
        units = [("man", 0, ARMY, p, 0) for p in (1, 6, 0, 2, 5)]
        self.assertEqual(last(CHAIN + units + [("disorder", 0)]), [5, 6, 5, 2, 1, 0])

    def test_distance_comes_before_kind(self):
        units = [("man", 0, FLEET, 4, 0), ("man", 0, ARMY, 5, 0)]
        self.assertEqual(last(CHAIN + units + [("disorder", 0)]), [2, 5, 4])

    def test_a_fleet_before_an_army(self):
        made = [("province", COAST, 1, 0)] + provinces(COAST, COAST, COAST) + [("land", 0, p) for p in (1, 2, 3)]
        units = [("man", 0, ARMY, 1, 0), ("man", 0, FLEET, 2, 1), ("man", 0, FLEET, 3, 0)]
        for some in itertools.permutations(units):
            self.assertEqual(last(made + list(some) + [("disorder", 0)]), [3, 2, 3, 1])

    def test_the_lesser_province_of_the_same_kind(self):
        made = [("province", COAST, 1, 0)] + provinces(COAST, COAST, COAST) + [("land", 0, p) for p in (1, 2, 3)]
        for fleet in (ARMY, FLEET):
            units = [("man", 0, fleet, p, 0) for p in (2, 3, 1)]
            self.assertEqual(last(made + units + [("disorder", 0)]), [3, 1, 2, 3])

    def test_without_a_distance_before_all_others(self):
        units = [("man", 0, ARMY, 6, 0), ("man", 0, ARMY, 7, 0), ("man", 0, FLEET, 4, 0)]
        self.assertEqual(last(CHAIN + units + [("disorder", 0)]), [3, 7, 6, 4])

    def test_without_a_distance_before_the_farthest_of_forty(self):
        made = provinces(LAND) + [("province", LAND, 1, 6)] + provinces(*[LAND] * 38)
        made += [("land", p, p + 1) for p in range(1, 39)]
        units = [("man", 6, ARMY, 39, 0), ("man", 6, ARMY, 0, 0), ("man", 6, ARMY, 1, 0)]
        self.assertEqual(last(made + units + [("disorder", 6)]), [3, 0, 39, 1])

    def test_several_without_a_distance(self):
        made = provinces(LAND, COAST, COAST, SEA, LAND)
        units = [("man", 2, ARMY, 4, 0), ("man", 2, ARMY, 0, 0), ("man", 2, FLEET, 3, 0), ("man", 2, FLEET, 1, 2)]
        self.assertEqual(last(made + units + [("disorder", 2)]), [4, 1, 3, 0, 4])

    def test_of_its_own_units_alone(self):
        self.assertEqual(run(SEASON + [("disorder", 0), ("disorder", 1)])[-2:], [[1, 2], [3, 7, 6, 4]])

    def test_those_ordered_to_be_dropped_are_among_them(self):
        self.assertEqual(last(GIVEN + [("disorder", 1)]), [3, 7, 6, 4])


class Settle(unittest.TestCase):
    def check(self, calls, told, units):
        self.assertEqual(run(calls + [("settle",), ("men",)])[-2:], [told, units])

    def test_nothing_at_all(self):
        self.check([], [0, 0], [0])

    def test_nothing_to_do(self):
        made = [("province", LAND, 1, 3), ("owner", 0, 3), ("man", 3, ARMY, 0, 0)]
        self.check(made, [0, 0], [1, 0, 3, 0, 0])

    def test_fewer_units_than_centres_lose_none(self):
        self.check(SEASON[:-3], [0, 0], [1, 2, 0, 0, 0])

    def test_none_dropped_by_order(self):
        self.check(SEASON, [0, 2, 6, 7], [2, 2, 0, 0, 0, 4, 1, 0, 0])

    def test_some_dropped_by_order(self):
        self.check(SEASON + [("drop", 4)], [0, 2, 4, 7], [2, 2, 0, 0, 0, 6, 1, 0, 0])
        self.check(SEASON + [("drop", 7)], [0, 2, 6, 7], [2, 2, 0, 0, 0, 4, 1, 0, 0])

    def test_all_dropped_by_order(self):
        self.check(SEASON + [("drop", 6), ("drop", 4)], [0, 2, 4, 6], [2, 2, 0, 0, 0, 7, 1, 1, 1])

    def test_raised_and_dropped_at_once(self):
        self.check(GIVEN, [1, 1, 0, 1, 2, 2, 6, 7], [3, 1, 0, 1, 2, 2, 0, 0, 0, 4, 1, 0, 0])

    def test_raised_in_the_order_of_provinces(self):
        calls = GIVEN + [("raise", 0, ARMY, 0, 0)]
        self.check(calls, [2, 0, 0, 0, 0, 1, 0, 1, 2, 2, 6, 7], [4, 0, 0, 0, 0, 1, 0, 1, 2, 2, 0, 0, 0, 4, 1, 0, 0])

    def test_raised_alone(self):
        made = [("province", COAST, 1, 5), ("owner", 0, 5), ("raise", 5, FLEET, 0, 3)]
        self.check(made, [1, 0, 5, 1, 3, 0], [1, 0, 5, 1, 3])

    def test_all_units_of_a_power_without_a_centre(self):
        made = provinces(LAND, LAND, LAND) + [("man", 4, ARMY, p, 0) for p in (2, 0, 1)]
        self.check(made, [0, 3, 0, 1, 2], [0])
        self.check(made + [("drop", 1)], [0, 3, 0, 1, 2], [0])

    def test_several_powers_have_to_drop(self):
        made = [("province", LAND, 1, 0), ("province", LAND, 1, 1)] + provinces(LAND, LAND, LAND)
        made += [("land", 0, 2), ("land", 1, 2), ("land", 2, 3), ("land", 3, 4), ("owner", 0, 0), ("owner", 1, 1)]
        made += [("man", 1, ARMY, 0, 0), ("man", 0, ARMY, 1, 0), ("man", 0, ARMY, 3, 0), ("man", 1, ARMY, 4, 0)]
        self.check(made, [0, 2, 1, 4], [2, 0, 1, 0, 0, 3, 0, 0, 0])
        self.check(made + [("drop", 3)], [0, 2, 3, 4], [2, 0, 1, 0, 0, 1, 0, 0, 0])
        self.check(made + [("drop", 3), ("drop", 0)], [0, 2, 0, 3], [2, 1, 0, 0, 0, 4, 1, 0, 0])

    def test_by_distance_by_kind_and_by_province(self):
        made = [("province", COAST, 1, 0)] + provinces(COAST, COAST, COAST, COAST, COAST)
        made += [("land", 0, p) for p in (1, 2, 3)] + [("sea", 3, 0, 4, 0), ("owner", 0, 0)]
        made += [("man", 0, ARMY, 0, 0), ("man", 0, ARMY, 1, 0), ("man", 0, FLEET, 2, 0), ("man", 0, FLEET, 3, 1)]
        made += [("man", 0, ARMY, 4, 0), ("man", 0, ARMY, 5, 0)]
        self.assertEqual(last(made + [("disorder", 0)]), [6, 5, 4, 2, 3, 1, 0])
        centres = [("province", LAND, 1, -1)] * 5
        for owned in range(6):
            told = last(made + centres + [("owner", 6 + k, 0) for k in range(owned)] + [("settle",)])
            gone = sorted([5, 4, 2, 3, 1][:5 - owned])
            self.assertEqual(told, [0, len(gone)] + gone)

    def test_the_raised_ones_do_not_count_against_the_dropped_ones(self):
        told = run(GIVEN + [("settle",), ("balance", 0), ("balance", 1), ("settle",)])[-3:]
        self.assertEqual(told, [[4, 2, 0, 0], [1, 1, 0, 0], [0, 0]])

    def test_nothing_is_to_be_raised_or_dropped_then(self):
        calls = GIVEN + [("settle",)]
        self.assertEqual([part[2:] for part in shown(calls)[2:]], [[0, 0]] * 7)
        self.assertEqual(last(calls + [("raise", 0, ARMY, 0, 0)]), [0])
        self.assertEqual(last(calls + [("man", 1, ARMY, 6, 0), ("drop", 6)]), [0])

    def test_units_are_driven_out(self):
        calls = SEASON + [("driven", 3, ARMY, 3, 0, -1)]
        self.assertEqual(last(calls + [("settle",)]), [-7])
        self.assertEqual(shown(calls + [("settle",)]), shown(calls))
        self.assertEqual(last(calls + [("settle",), ("resolve",), ("settle",)]), [0, 2, 6, 7])

    def test_owners_and_bars_stay(self):
        self.assertEqual(shown(GIVEN + [("settle",)])[1], shown(GIVEN)[1])
        self.assertEqual(last(GIVEN + [("bar", 3), ("settle",), ("bar", 0)]), [2])

    def test_a_whole_season(self):
        told = run(SEASON + [
            ("man", 0, ARMY, 3, 0), ("driven", 1, ARMY, 3, 0, 2), ("land", 3, 6), ("land", 3, 0), ("take",),
            ("go", 3, 0, 0), ("resolve",), ("take",), ("sites", 0), ("raise", 0, FLEET, 1, 0), ("raise", 0, ARMY, 1, 0),
            ("drop", 0), ("settle",), ("men",), ("owners",),
        ])[len(SEASON):]
        self.assertEqual(told, [
            [0], [0], [0], [0], [-7], [0], [1, 3, 0, 0], [1], [1, 1], [0], [-4], [0],
            [1, 1, 0, 1, 0, 2, 0, 7], [5, 1, 0, 1, 0, 2, 0, 0, 0, 3, 0, 0, 0, 4, 1, 0, 0, 6, 1, 0, 0],
            [5, 0, 2, 1, 1, 2, 1, 3, 1, 4, 2],
        ])


class NoMoreUnitsThanCentres(unittest.TestCase):
    def test_behind_settle(self):
        for centres, units in itertools.product(range(5), range(6)):
            made = [("province", LAND, 1, 2)] * centres + provinces(*[LAND] * units)
            made += [("owner", p, 2) for p in range(centres)]
            made += [("man", 2, ARMY, centres + k, 0) for k in range(units)]
            for ordered in range(3):
                for asked in ("raise", "drop"):
                    orders = [("raise", 2, ARMY, p, 0) for p in range(min(ordered, centres))]
                    if asked == "drop":
                        orders = [("drop", centres + k) for k in range(min(ordered, units))]
                    told = run(made + orders + [("settle",), ("balance", 2)])[-1]
                    raised = min(ordered, max(0, centres - units)) if asked == "raise" else 0
                    self.assertEqual(told, [centres, min(units, centres) + raised, 0, 0])


class DistanceByASecondReading(unittest.TestCase):
    def test_all_boards_of_four_provinces(self):
        pairs = list(itertools.combinations(range(4), 2))
        for bits in range(2 ** len(pairs)):
            links = [pair for k, pair in enumerate(pairs) if bits >> k & 1]
            for homes in ((), (0,), (3,), (1, 2)):
                made = [("province", COAST, 1, 5 if p in homes else -1) for p in range(4)]
                # Land and sea links by turns, so that ways lead over both.
                for k, (p, q) in enumerate(links):
                    made.append(("land", p, q) if k % 2 else ("sea", q, k % 4, p, 3))
                told = run(made + fars(5, 4))[-4:]
                self.assertEqual(told, [[plain_distance(links, homes, p)] for p in range(4)])


if __name__ == "__main__":
    unittest.main()
