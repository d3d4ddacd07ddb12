"""The call resolve, and promises 1 and 3 of the units driven out."""

import itertools
import unittest

from lines import ARMY, COAST, FLEET, GIVEN, LAND, SEA, last, provinces, run, shown

# Armies are driven out of 0, 1 and 2; each has land links to 3 and 4, and those of 0 and 1 to each other's province.
ARMIES = provinces(LAND, LAND, LAND, LAND, LAND) + [
    ("land", 0, 3), ("land", 1, 3), ("land", 2, 3), ("land", 0, 4), ("land", 1, 4), ("land", 2, 4), ("land", 0, 1),
    ("driven", 5, ARMY, 2, 0, -1), ("driven", 3, ARMY, 0, 0, -1), ("driven", 4, ARMY, 1, 0, -1),
]

# Fleets are driven out of 0 and 1, an army out of 2; all three may go to coast 3, the fleets at shores 1 and 2.
SHORES = provinces(SEA, SEA, LAND, COAST, SEA) + [
    ("sea", 0, 0, 3, 1), ("sea", 0, 0, 3, 2), ("sea", 1, 0, 3, 1), ("sea", 1, 0, 3, 2), ("land", 2, 3),
    ("sea", 0, 0, 4, 3), ("driven", 1, FLEET, 0, 0, -1), ("driven", 2, FLEET, 1, 0, -1), ("driven", 3, ARMY, 2, 0, -1),
]


def resolved(calls):
    """What resolve answers behind these calls, and the units that stand then."""
    return run(calls + [("resolve",), ("men",)])[-2:]


class Resolve(unittest.TestCase):
    def test_nobody_driven_out(self):
        self.assertEqual(run([("resolve",)]), [[0]])
        self.assertEqual(resolved(provinces(LAND) + [("man", 2, ARMY, 0, 0)]), [[0], [1, 0, 2, 0, 0]])

    def test_one_goes_where_it_is_ordered(self):
        told = resolved(ARMIES + [("go", 0, 3, 0)])
        self.assertEqual(told, [[3, 0, 3, 0, 1, -1, 0, 2, -1, 0], [1, 3, 3, 0, 0]])

    def test_a_fleet_goes_to_its_shore(self):
        told = resolved(SHORES + [("go", 0, 4, 3), ("go", 1, 3, 2)])
        self.assertEqual(told, [[3, 0, 4, 3, 1, 3, 2, 2, -1, 0], [2, 3, 2, 1, 2, 4, 1, 1, 3]])

    def test_without_an_order_it_is_gone(self):
        self.assertEqual(resolved(ARMIES), [[3, 0, -1, 0, 1, -1, 0, 2, -1, 0], [0]])

    def test_ordered_to_leave_it_is_gone(self):
        told = resolved(ARMIES + [("leave", 0), ("go", 1, 4, 0), ("leave", 2)])
        self.assertEqual(told, [[3, 0, -1, 0, 1, 4, 0, 2, -1, 0], [1, 4, 4, 0, 0]])

    def test_the_last_order_counts(self):
        told = resolved(ARMIES + [("go", 0, 3, 0), ("go", 1, 4, 0), ("go", 0, 1, 0), ("leave", 1), ("go", 2, 3, 0)])
        self.assertEqual(told, [[3, 0, 1, 0, 1, -1, 0, 2, 3, 0], [2, 1, 3, 0, 0, 3, 5, 0, 0]])

    def test_a_refused_order_leaves_the_one_before(self):
        told = resolved(ARMIES + [("go", 0, 3, 0), ("go", 0, 2, 0), ("go", 0, 3, 1)])
        self.assertEqual(told[1], [1, 3, 3, 0, 0])

    def test_two_ordered_to_one_place_are_both_gone(self):
        told = resolved(ARMIES + [("go", 0, 3, 0), ("go", 1, 3, 0), ("go", 2, 4, 0)])
        self.assertEqual(told, [[3, 0, -1, 0, 1, -1, 0, 2, 4, 0], [1, 4, 5, 0, 0]])

    def test_three_ordered_to_one_place_are_all_gone(self):
        told = resolved(ARMIES + [("go", 0, 3, 0), ("go", 1, 3, 0), ("go", 2, 3, 0)])
        self.assertEqual(told, [[3, 0, -1, 0, 1, -1, 0, 2, -1, 0], [0]])

    def test_two_of_one_power_are_gone_too(self):
        calls = provinces(LAND, LAND, LAND) + [("land", 0, 2), ("land", 1, 2)]
        calls += [("driven", 1, ARMY, 0, 0, -1), ("driven", 1, ARMY, 1, 0, -1), ("go", 0, 2, 0), ("go", 1, 2, 0)]
        self.assertEqual(resolved(calls), [[2, 0, -1, 0, 1, -1, 0], [0]])

    def test_two_at_one_shore_and_at_two_shores(self):
        for s, t in ((1, 1), (2, 2), (1, 2), (2, 1)):
            told = resolved(SHORES + [("go", 0, 3, s), ("go", 1, 3, t)])
            self.assertEqual(told, [[3, 0, -1, 0, 1, -1, 0, 2, -1, 0], [0]])

    def test_an_army_and_a_fleet_to_one_coast(self):
        told = resolved(SHORES + [("go", 2, 3, 0), ("go", 1, 3, 1), ("go", 0, 4, 3)])
        self.assertEqual(told, [[3, 0, 4, 3, 1, -1, 0, 2, -1, 0], [1, 4, 1, 1, 3]])

    def test_one_that_was_ordered_elsewhere_since_is_no_hindrance(self):
        told = resolved(ARMIES + [("go", 0, 3, 0), ("go", 1, 3, 0), ("leave", 0)])
        self.assertEqual(told[1], [1, 3, 4, 0, 0])
        told = resolved(ARMIES + [("go", 0, 3, 0), ("go", 1, 3, 0), ("go", 0, 4, 0)])
        self.assertEqual(told[1], [2, 3, 4, 0, 0, 4, 3, 0, 0])

    def test_a_unit_has_come_there_since(self):
        for power in (0, 3):
            told = resolved(ARMIES + [("go", 0, 3, 0), ("man", power, ARMY, 3, 0)])
            self.assertEqual(told, [[3, 0, -1, 0, 1, -1, 0, 2, -1, 0], [1, 3, power, 0, 0]])
        told = resolved(SHORES + [("go", 0, 3, 1), ("man", 6, FLEET, 3, 2)])
        self.assertEqual(told, [[3, 0, -1, 0, 1, -1, 0, 2, -1, 0], [1, 3, 6, 1, 2]])

    def test_it_was_barred_since(self):
        told = resolved(ARMIES + [("go", 0, 3, 0), ("go", 1, 4, 0), ("bar", 3)])
        self.assertEqual(told, [[3, 0, -1, 0, 1, 4, 0, 2, -1, 0], [1, 4, 4, 0, 0]])

    def test_two_ordered_to_a_province_barred_since(self):
        told = resolved(ARMIES + [("go", 0, 3, 0), ("go", 1, 3, 0), ("bar", 3)])
        self.assertEqual(told, [[3, 0, -1, 0, 1, -1, 0, 2, -1, 0], [0]])

    def test_one_may_go_where_another_was_driven_out(self):
        told = resolved(ARMIES + [("go", 0, 1, 0), ("go", 1, 0, 0)])
        self.assertEqual(told, [[3, 0, 1, 0, 1, 0, 0, 2, -1, 0], [2, 0, 4, 0, 0, 1, 3, 0, 0]])

    def test_the_one_that_drove_it_out_stays(self):
        told = resolved(ARMIES + [("man", 6, ARMY, 0, 0), ("go", 0, 3, 0)])
        self.assertEqual(told[1], [2, 0, 6, 0, 0, 3, 3, 0, 0])

    def test_nobody_is_driven_out_then(self):
        told = run(ARMIES + [("go", 0, 3, 0), ("resolve",), ("choices", 0), ("go", 0, 4, 0), ("leave", 1), ("resolve",)])
        self.assertEqual(told[-4:], [[-5], [-5], [-5], [0]])
        self.assertEqual(last(ARMIES + [("resolve",), ("take",)]), [0])
        self.assertEqual(last(ARMIES + [("resolve",), ("driven", 0, ARMY, 0, 0, -1)]), [0])

    def test_an_order_is_not_kept_for_the_next_one_driven_out(self):
        again = [("resolve",), ("driven", 3, ARMY, 0, 0, -1)]
        self.assertEqual(resolved(ARMIES + [("go", 0, 3, 0), ("bar", 3)] + again), [[1, 0, -1, 0], [0]])

    def test_nothing_is_barred_then(self):
        self.assertEqual(last(ARMIES + [("bar", 3), ("bar", 4), ("resolve",), ("bar", 0)]), [1])
        self.assertEqual(last(provinces(LAND, LAND) + [("bar", 0), ("resolve",), ("bar", 1)]), [1])
        again = [("bar", 3), ("resolve",), ("driven", 3, ARMY, 0, 0, -1), ("choices", 0)]
        self.assertEqual(last(ARMIES + again), [3, 1, 0, 3, 0, 4, 0])

    def test_twenty_four_go_and_stay_within_their_number(self):
        calls = provinces(*[LAND] * 40) + [("land", p, p + 16) for p in range(24)]
        # Some go where others were driven out, and these go farther on.
        calls += [("driven", p % 7, ARMY, p, 0, -1) for p in range(24)]
        calls += [("go", p, p + 16, 0) for p in range(24)]
        told = run(calls + [("resolve",), ("men",), ("man", 0, ARMY, 0, 0)])[-3:]
        moves, units = [24], [24]
        for p in range(24):
            moves += [p, p + 16, 0]
            units += [p + 16, p % 7, 0, 0]
        self.assertEqual(told, [moves, units, [-2]])

    def test_nothing_is_to_be_raised_or_dropped_any_more(self):
        self.assertEqual(run(GIVEN + [("resolve",), ("balance", 0), ("balance", 1)])[-2:], [[4, 1, 0, 0], [1, 3, 0, 0]])

    def test_owners_stay(self):
        before = shown(GIVEN)[1]
        self.assertEqual(shown(GIVEN + [("driven", 3, ARMY, 3, 0, -1), ("resolve",)])[1], before)


class OrderOfOrders(unittest.TestCase):
    def test_it_does_not_matter_to_what_comes_of_them(self):
        orders = [("go", 0, 3, 0), ("go", 1, 4, 0), ("go", 2, 3, 0)]
        swaps = [("go", 0, 1, 0), ("go", 1, 0, 0), ("leave", 2)]
        for given, units in ((orders, [1, 4, 4, 0, 0]), (swaps, [2, 0, 4, 0, 0, 1, 3, 0, 0])):
            for some in itertools.permutations(given):
                self.assertEqual(resolved(ARMIES + list(some))[1], units)

    def test_nor_does_the_order_in_which_they_were_driven_out(self):
        made = ARMIES[:-3]
        orders = [("go", 0, 3, 0), ("go", 1, 4, 0), ("go", 2, 3, 0)]
        for some in itertools.permutations(ARMIES[-3:]):
            told = resolved(made + list(some) + orders)
            self.assertEqual(told, [[3, 0, -1, 0, 1, 4, 0, 2, -1, 0], [1, 4, 4, 0, 0]])


class NoTwoInOneProvince(unittest.TestCase):
    def test_whatever_is_ordered(self):
        orders = [[(q, 0) for q in (1, 3, 4)], [(q, 0) for q in (0, 3, 4)], [(3, 0), (4, 0)]]
        for places in itertools.product(*orders):
            calls = ARMIES + [("man", 6, ARMY, 2, 0)]
            calls += [("go", p, q, s) for p, (q, s) in enumerate(places)]
            units = resolved(calls)[1]
            stand = units[1::4]
            self.assertEqual(len(stand), len(set(stand)))
            goals = [q for q, s in places]
            self.assertEqual(sorted(stand), sorted([2] + [q for q in goals if goals.count(q) == 1]))


if __name__ == "__main__":
    unittest.main()
