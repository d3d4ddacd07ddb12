"""The calls take, balance, sites, men and owners."""

import unittest

from lines import ARMY, COAST, FLEET, GIVEN, LAND, SEA, SEASON, last, provinces, run, shown

# Centres 0 to 3: owned by nobody, by 2, by 5, by 5; 4 is no centre. Power 2 stands in 0, 1, 2 and 4.
TAKING = [("province", COAST, 1, -1)] * 4 + provinces(COAST) + [
    ("owner", 1, 2), ("owner", 2, 5), ("owner", 3, 5),
    ("man", 2, ARMY, 0, 0), ("man", 2, FLEET, 1, 3), ("man", 2, FLEET, 2, 0), ("man", 2, ARMY, 4, 0),
]


class Take(unittest.TestCase):
    def test_no_owner_the_same_and_another(self):
        told = run(TAKING + [("owners",), ("take",), ("owners",)])[-3:]
        self.assertEqual(told, [[4, 0, 0, 1, 3, 2, 6, 3, 6], [2], [4, 0, 3, 1, 3, 2, 3, 3, 6]])

    def test_each_by_itself(self):
        for before, taken in ((-1, 1), (2, 0), (0, 1), (6, 1)):
            calls = [("province", LAND, 1, -1), ("owner", 0, before), ("man", 2, ARMY, 0, 0), ("take",), ("owners",)]
            self.assertEqual(run(calls)[-2:], [[taken], [1, 0, 3]])

    def test_power_zero_takes_too(self):
        for before in (-1, 1):
            calls = [("province", LAND, 1, -1), ("owner", 0, before), ("man", 0, ARMY, 0, 0), ("take",), ("owners",)]
            self.assertEqual(run(calls)[-2:], [[1], [1, 0, 1]])

    def test_a_second_time_nothing_is_taken(self):
        self.assertEqual(run(TAKING + [("take",), ("take",)])[-2:], [[2], [0]])

    def test_a_home_of_another_power(self):
        calls = [("province", LAND, 1, 4), ("owner", 0, 4), ("man", 1, ARMY, 0, 0), ("take",), ("owners",), ("far", 4, 0)]
        self.assertEqual(run(calls)[-3:], [[1], [1, 0, 2], [0]])

    def test_no_units_no_centres(self):
        self.assertEqual(run([("take",)]), [[0]])
        self.assertEqual(last([("province", LAND, 1, 3), ("owner", 0, 3), ("take",)]), [0])
        self.assertEqual(last(provinces(LAND) + [("man", 1, ARMY, 0, 0), ("take",)]), [0])

    def test_units_are_driven_out(self):
        calls = TAKING + [("driven", 0, ARMY, 4, 0, -1)]
        self.assertEqual(last(calls + [("take",)]), [-7])
        self.assertEqual(shown(calls + [("take",)]), shown(calls))

    def test_nothing_is_to_be_raised_or_dropped_any_more(self):
        self.assertEqual(run(GIVEN + [("take",), ("balance", 0), ("balance", 1)])[-3:], [[0], [4, 1, 0, 0], [1, 3, 0, 0]])

    def test_units_stay(self):
        self.assertEqual(shown(TAKING + [("take",)])[0], shown(TAKING)[0])


class Balance(unittest.TestCase):
    def test_nothing_at_all(self):
        self.assertEqual(run([("balance", power) for power in range(7)]), [[0, 0, 0, 0]] * 7)

    def test_centres_and_units(self):
        self.assertEqual(run(SEASON + [("balance", p) for p in (0, 1, 2)])[-3:], [[4, 1, 0, 0], [1, 3, 0, 0], [0] * 4])

    def test_raises_and_drops(self):
        more = [("raise", 0, ARMY, 0, 0), ("drop", 7), ("balance", 0), ("balance", 1)]
        self.assertEqual(run(GIVEN + [("balance", 0), ("balance", 1)])[-2:], [[4, 1, 1, 0], [1, 3, 0, 1]])
        self.assertEqual(run(GIVEN + more)[-2:], [[4, 1, 2, 0], [1, 3, 0, 2]])

    def test_a_home_counts_for_its_owner_alone(self):
        calls = [("province", LAND, 1, 0), ("province", LAND, 1, 0), ("owner", 1, 3), ("balance", 0), ("balance", 3)]
        self.assertEqual(run(calls)[-2:], [[0, 0, 0, 0], [1, 0, 0, 0]])

    def test_an_owner_no_more(self):
        calls = [("province", LAND, 1, 0), ("owner", 0, 0), ("owner", 0, -1), ("balance", 0)]
        self.assertEqual(last(calls), [0, 0, 0, 0])

    def test_a_unit_driven_out_is_not_counted(self):
        self.assertEqual(last(provinces(LAND) + [("driven", 0, ARMY, 0, 0, -1), ("balance", 0)]), [0, 0, 0, 0])


class Sites(unittest.TestCase):
    def test_none(self):
        self.assertEqual(run([("sites", 0)]), [[0]])
        self.assertEqual(last(SEASON + [("sites", 1)]), [0])

    def test_rising(self):
        made = [("province", LAND, 1, 6)] * 3 + [("owner", p, 6) for p in (2, 0, 1)]
        self.assertEqual(last(made + [("sites", 6)]), [3, 0, 1, 2])

    def test_a_home_that_it_does_not_own(self):
        made = [("province", LAND, 1, 6)] * 3 + [("owner", 0, 6), ("owner", 1, 5)]
        self.assertEqual(run(made + [("sites", 6), ("sites", 5)])[-2:], [[1, 0], [0]])

    def test_an_owned_centre_that_is_no_home(self):
        made = [("province", LAND, 1, -1), ("province", LAND, 1, 2), ("owner", 0, 2), ("owner", 1, 2)]
        self.assertEqual(last(made + [("sites", 2)]), [1, 1])

    def test_a_home_with_a_unit_in_it(self):
        self.assertEqual(last(SEASON + [("sites", 0)]), [2, 0, 1])
        for power in (0, 3):
            self.assertEqual(last(SEASON + [("man", power, ARMY, 0, 0), ("sites", 0)]), [1, 1])

    def test_one_where_a_unit_is_to_be_raised_is_one_still(self):
        self.assertEqual(last(GIVEN + [("sites", 0)]), [2, 0, 1])

    def test_one_out_of_which_a_unit_was_driven_is_one(self):
        made = [("province", LAND, 1, 2), ("owner", 0, 2), ("driven", 2, ARMY, 0, 0, -1), ("bar", 0)]
        self.assertEqual(last(made + [("sites", 2)]), [1, 0])


class Men(unittest.TestCase):
    def test_none(self):
        self.assertEqual(run([("men",)]), [[0]])
        self.assertEqual(last(provinces(LAND) + [("driven", 0, ARMY, 0, 0, -1), ("men",)]), [0])

    def test_in_the_order_of_provinces(self):
        calls = provinces(LAND, COAST, SEA) + [("man", 6, FLEET, 2, 3), ("man", 0, ARMY, 0, 0), ("man", 4, FLEET, 1, 1)]
        self.assertEqual(last(calls + [("men",)]), [3, 0, 0, 0, 0, 1, 4, 1, 1, 2, 6, 1, 3])

    def test_one_to_be_raised_does_not_stand_yet(self):
        self.assertEqual(last(GIVEN + [("men",)]), last(SEASON + [("men",)]))


class Owners(unittest.TestCase):
    def test_none(self):
        self.assertEqual(run([("owners",)]), [[0]])
        self.assertEqual(last(provinces(LAND, SEA, COAST) + [("owners",)]), [0])

    def test_nobody_or_one_more_than_the_owner(self):
        made = provinces(SEA) + [("province", LAND, 1, 3)] * 9 + provinces(LAND)
        made += [("owner", p, 8 - p) for p in range(8, 1, -1)]
        told = [9, 1, 0] + [number for p in range(2, 9) for number in (p, 9 - p)] + [9, 0]
        self.assertEqual(last(made + [("owners",)]), told)

    def test_nobody_again(self):
        made = [("province", LAND, 1, 3), ("owner", 0, 3)]
        self.assertEqual(run(made + [("owners",), ("owner", 0, -1), ("owners",)])[-3:], [[1, 0, 4], [0], [1, 0, 0]])


class AskingChangesNothing(unittest.TestCase):
    def test_each_of_them(self):
        calls = [("balance", 0), ("sites", 0), ("men",), ("owners",), ("disorder", 1), ("far", 1, 7)]
        for call in calls:
            told = run(GIVEN + [call, call])[-2:]
            self.assertEqual(told[0], told[1])
            self.assertEqual(shown(GIVEN + [call]), shown(GIVEN))
            self.assertEqual(last(GIVEN + [call, ("settle",)]), last(GIVEN + [("settle",)]))


if __name__ == "__main__":
    unittest.main()
