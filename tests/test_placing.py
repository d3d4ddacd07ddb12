"""The calls man, owner, driven and bar, and promise 1 as far as they reach."""

import unittest

from lines import ARMY, COAST, FLEET, LAND, SEA, board_after, crowd, do, last, provinces, run


class Man(unittest.TestCase):
    def test_each_kind_of_unit_where_it_may_stand(self):
        made = provinces(LAND, COAST, SEA)
        for fleet, p, s in ((ARMY, 0, 0), (ARMY, 1, 0), (FLEET, 1, 0), (FLEET, 1, 3), (FLEET, 2, 0), (FLEET, 2, 3)):
            self.assertEqual(last(made + [("man", 6, fleet, p, s)]), [0])

    def test_what_it_is_told_is_kept(self):
        board = board_after(provinces(LAND, COAST) + [("man", 5, FLEET, 1, 2), ("man", 1, ARMY, 0, 0)])
        kept = [(unit.power, unit.fleet, unit.province, unit.shore) for unit in board.units.values()]
        self.assertEqual(kept, [(5, FLEET, 1, 2), (1, ARMY, 0, 0)])
        self.assertEqual(list(board.units), [1, 0])

    def test_wrong_kind(self):
        made = provinces(LAND, COAST, SEA)
        wrong = [(ARMY, 2, 0), (ARMY, 2, 1), (ARMY, 0, 1), (ARMY, 1, 1), (ARMY, 1, 3), (FLEET, 0, 0), (FLEET, 0, 2)]
        for fleet, p, s in wrong:
            self.assertEqual(last(made + [("man", 0, fleet, p, s)]), [-3])

    def test_no_two_units_stand_in_one_province(self):
        for fleet, s in ((ARMY, 0), (FLEET, 0), (FLEET, 1)):
            for power in (0, 1):
                board = board_after(provinces(COAST) + [("man", 0, ARMY, 0, 0)])
                self.assertEqual(do(board, "man", power, fleet, 0, s), [-4])
                self.assertEqual(len(board.units), 1)
                self.assertEqual(board.units[0].power, 0)

    def test_it_may_stand_where_one_was_driven_out(self):
        self.assertEqual(last(provinces(LAND) + [("driven", 0, ARMY, 0, 0, -1), ("man", 1, ARMY, 0, 0)]), [0])

    def test_it_may_stand_in_a_barred_province(self):
        self.assertEqual(last(provinces(LAND) + [("bar", 0), ("man", 1, ARMY, 0, 0)]), [0])

    def test_twenty_four_together_and_no_more(self):
        for units, driven in ((23, 0), (12, 11), (0, 23)):
            told = run(crowd(units, driven) + [("man", 0, ARMY, 30, 0), ("man", 0, ARMY, 31, 0)])
            self.assertEqual(told[-2:], [[0], [-2]])

    def test_order_of_refusals(self):
        full = crowd(24, 0)
        self.assertEqual(last(full + [("man", 7, ARMY, 0, 1)]), [-1])
        self.assertEqual(last(full + [("man", 0, ARMY, 0, 1)]), [-3])
        self.assertEqual(last(full + [("man", 0, ARMY, 30, 1)]), [-3])
        self.assertEqual(last(full + [("man", 0, ARMY, 0, 0)]), [-4])


class Owner(unittest.TestCase):
    def test_owned_by_each_power_or_nobody(self):
        board = board_after([("province", LAND, 1, -1)])
        for power in (0, 6, -1, 3):
            self.assertEqual(do(board, "owner", 0, power), [0])
            self.assertEqual(board.provinces[0].owner, power)

    def test_home_stays_as_it_was(self):
        board = board_after([("province", COAST, 1, 4), ("province", COAST, 1, 4), ("owner", 1, 2)])
        self.assertEqual([one.home for one in board.provinces], [4, 4])
        self.assertEqual([one.owner for one in board.provinces], [-1, 2])

    def test_no_centre(self):
        made = provinces(LAND, SEA, COAST)
        for p in range(3):
            for power in (-1, 0, 6):
                self.assertEqual(last(made + [("owner", p, power)]), [-3])

    def test_range_comes_before_no_centre(self):
        self.assertEqual(last(provinces(LAND) + [("owner", 0, 7)]), [-1])
        self.assertEqual(last(provinces(LAND) + [("owner", 0, -2)]), [-1])


class Driven(unittest.TestCase):
    def test_each_kind_of_unit_where_it_may_have_stood(self):
        made = provinces(LAND, COAST, SEA)
        for fleet, p, s in ((ARMY, 0, 0), (ARMY, 1, 0), (FLEET, 1, 0), (FLEET, 1, 3), (FLEET, 2, 0), (FLEET, 2, 3)):
            for origin in (-1, 0, 1, 2):
                self.assertEqual(last(made + [("driven", 6, fleet, p, s, origin)]), [0])

    def test_what_it_is_told_is_kept_without_an_order(self):
        board = board_after(provinces(LAND, COAST) + [("driven", 5, FLEET, 1, 2, 0)])
        one = board.driven[1]
        self.assertEqual((one.unit.power, one.unit.fleet, one.unit.province, one.unit.shore), (5, FLEET, 1, 2))
        self.assertEqual((one.origin, one.order, one.goal), (0, 0, None))

    def test_wrong_kind(self):
        made = provinces(LAND, COAST, SEA)
        wrong = [(ARMY, 2, 0), (ARMY, 2, 1), (ARMY, 0, 1), (ARMY, 1, 1), (ARMY, 1, 3), (FLEET, 0, 0), (FLEET, 0, 2)]
        for fleet, p, s in wrong:
            self.assertEqual(last(made + [("driven", 0, fleet, p, s, -1)]), [-3])

    def test_one_driven_out_of_there_already(self):
        made = provinces(COAST, COAST) + [("driven", 0, ARMY, 0, 0, -1)]
        self.assertEqual(last(made + [("driven", 1, FLEET, 0, 1, 1)]), [-4])
        self.assertEqual(last(made + [("driven", 1, FLEET, 1, 1, 1)]), [0])

    def test_a_unit_in_the_province_is_no_hindrance(self):
        self.assertEqual(last(provinces(LAND) + [("man", 0, ARMY, 0, 0), ("driven", 1, ARMY, 0, 0, -1)]), [0])

    def test_twenty_four_together_and_no_more(self):
        for units, driven in ((23, 0), (12, 11), (0, 23)):
            told = run(crowd(units, driven) + [("driven", 0, ARMY, 30, 0, -1), ("driven", 0, ARMY, 31, 0, -1)])
            self.assertEqual(told[-2:], [[0], [-2]])

    def test_order_of_refusals(self):
        full = crowd(0, 24)
        self.assertEqual(last(full + [("driven", 0, ARMY, 0, 1, -2)]), [-1])
        self.assertEqual(last(full + [("driven", 0, ARMY, 0, 1, -1)]), [-3])
        self.assertEqual(last(full + [("driven", 0, ARMY, 30, 1, -1)]), [-3])
        self.assertEqual(last(full + [("driven", 0, ARMY, 0, 0, -1)]), [-4])


class Bar(unittest.TestCase):
    def test_how_many_are_barred_then(self):
        self.assertEqual(run(provinces(LAND, SEA, COAST) + [("bar", 2), ("bar", 0), ("bar", 1)])[3:], [[1], [2], [3]])

    def test_barred_twice_counts_once(self):
        calls = provinces(LAND, LAND) + [("bar", 1), ("bar", 1), ("bar", 0), ("bar", 1)]
        self.assertEqual(run(calls)[2:], [[1], [1], [2], [2]])

    def test_all_forty(self):
        told = run(provinces(*[LAND] * 40) + [("bar", p) for p in range(40)])
        self.assertEqual(told[40:], [[k] for k in range(1, 41)])

    def test_a_province_with_a_unit(self):
        self.assertEqual(last(provinces(LAND) + [("man", 0, ARMY, 0, 0), ("bar", 0)]), [1])


if __name__ == "__main__":
    unittest.main()
