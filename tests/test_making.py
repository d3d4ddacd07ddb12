"""The calls clear, province, land and sea."""

import unittest

from lines import (
    ARMY, COAST, FLEET, GIVEN, LAND, SEA,
    board_after, do, last, many_land_links, many_sea_links, provinces, run, shown, whole,
)
from seasonboard.board import Board


class Clear(unittest.TestCase):
    def test_clear_may_come_first(self):
        self.assertEqual(run([("clear",)]), [[0]])

    def test_nothing_is_left_of_anything(self):
        board = board_after([
            ("province", LAND, 1, 2), ("province", COAST, 0, -1), ("province", SEA, 0, -1),
            ("land", 0, 1), ("sea", 1, 0, 2, 0), ("man", 0, ARMY, 0, 0), ("owner", 0, 3),
            ("driven", 1, FLEET, 1, 0, 0), ("bar", 0), ("leave", 1),
        ])
        self.assertEqual(do(board, "clear"), [0])
        self.assertEqual(whole(board), whole(Board()))

    def test_nothing_is_left_of_raises_and_drops(self):
        board = board_after(GIVEN)
        self.assertEqual(do(board, "clear"), [0])
        self.assertEqual(whole(board), whole(Board()))
        self.assertEqual(shown(GIVEN + [("clear",)]), shown([("clear",)]))

    def test_provinces_are_numbered_anew(self):
        calls = provinces(LAND, LAND) + [("clear",)] + provinces(LAND, LAND)
        self.assertEqual(run(calls), [[0], [1], [0], [0], [1]])

    def test_what_was_there_may_be_made_again(self):
        made = provinces(LAND, LAND, COAST, SEA) + [
            ("land", 0, 1), ("sea", 2, 1, 3, 0), ("man", 0, ARMY, 0, 0),
            ("driven", 0, ARMY, 0, 0, -1), ("bar", 1), ("choices", 0),
        ]
        told = run(made + [("clear",)] + made)
        self.assertEqual(told[:len(made)], told[len(made) + 1:])

    def test_no_province_is_in_range_behind_it(self):
        self.assertEqual(last(provinces(LAND) + [("clear",), ("bar", 0)]), [-1])


class MakeProvince(unittest.TestCase):
    def test_numbers_rise_from_zero(self):
        self.assertEqual(run(provinces(LAND, SEA, COAST)), [[0], [1], [2]])

    def test_what_it_is_told_is_kept(self):
        board = board_after([("province", COAST, 1, 6), ("province", LAND, 1, -1), ("province", SEA, 0, -1)])
        kept = [(one.kind, one.centre, one.home, one.owner) for one in board.provinces]
        self.assertEqual(kept, [(COAST, 1, 6, -1), (LAND, 1, -1, -1), (SEA, 0, -1, -1)])

    def test_home_of_each_power(self):
        calls = [("province", LAND, 1, home) for home in range(-1, 7)]
        self.assertEqual(run(calls), [[k] for k in range(8)])

    def test_forty_and_no_more(self):
        told = run(provinces(*[LAND] * 41))
        self.assertEqual(told[39], [39])
        self.assertEqual(told[40], [-2])

    def test_centre_in_a_sea(self):
        self.assertEqual(run([("province", SEA, 1, -1)]), [[-3]])
        self.assertEqual(run([("province", SEA, 1, 0)]), [[-3]])

    def test_home_of_a_province_that_is_no_centre(self):
        for kind in (LAND, SEA, COAST):
            for home in range(7):
                self.assertEqual(run([("province", kind, 0, home)]), [[-3]])

    def test_full_comes_before_unfit(self):
        full = provinces(*[LAND] * 40)
        self.assertEqual(last(full + [("province", SEA, 1, -1)]), [-2])
        self.assertEqual(last(full + [("province", LAND, 0, 3)]), [-2])

    def test_range_comes_before_full_and_unfit(self):
        full = provinces(*[LAND] * 40)
        self.assertEqual(last(full + [("province", 3, 0, -1)]), [-1])
        self.assertEqual(last([("province", SEA, 1, 7)]), [-1])

    def test_a_refused_one_takes_no_number(self):
        self.assertEqual(run([("province", SEA, 1, -1), ("province", SEA, 0, -1)]), [[-3], [0]])


class LandLink(unittest.TestCase):
    def test_between_lands_and_coasts(self):
        calls = provinces(LAND, LAND, COAST, COAST) + [("land", 0, 1), ("land", 2, 1), ("land", 2, 3)]
        self.assertEqual(run(calls)[4:], [[0], [0], [0]])

    def test_to_itself(self):
        self.assertEqual(last(provinces(LAND, LAND) + [("land", 1, 1)]), [-3])

    def test_with_a_sea_at_either_end(self):
        made = provinces(LAND, SEA, SEA)
        for p, q in ((0, 1), (1, 0), (1, 2), (1, 1)):
            self.assertEqual(last(made + [("land", p, q)]), [-3])

    def test_there_already_asked_both_ways(self):
        made = provinces(LAND, LAND, LAND) + [("land", 0, 2)]
        self.assertEqual(last(made + [("land", 0, 2)]), [-4])
        self.assertEqual(last(made + [("land", 2, 0)]), [-4])
        self.assertEqual(last(made + [("land", 0, 1)]), [0])

    def test_a_sea_link_is_no_land_link(self):
        self.assertEqual(last(provinces(COAST, COAST) + [("sea", 0, 0, 1, 0), ("land", 0, 1)]), [0])

    def test_three_hundred_and_no_more(self):
        told = run(many_land_links(301))
        self.assertEqual(told[40:340], [[0]] * 300)
        self.assertEqual(told[340], [-2])

    def test_full_comes_last(self):
        full = many_land_links(300)
        self.assertEqual(last(full + [("land", 39, 39)]), [-3])
        self.assertEqual(last(full + [("land", 1, 0)]), [-4])
        self.assertEqual(last(full + [("land", 0, 40)]), [-1])

    def test_full_of_land_links_leaves_room_for_sea_links(self):
        made = [("province", COAST, 0, -1)] * 40 + many_land_links(300)[40:]
        self.assertEqual(last(made + [("sea", 0, 0, 1, 0)]), [0])


class SeaLink(unittest.TestCase):
    def test_between_seas_and_coasts(self):
        calls = provinces(SEA, SEA, COAST, COAST) + [("sea", 0, 0, 1, 0), ("sea", 2, 3, 1, 0), ("sea", 2, 1, 3, 2)]
        self.assertEqual(run(calls)[4:], [[0], [0], [0]])

    def test_to_itself_at_whatever_shores(self):
        made = provinces(COAST, SEA)
        for p in (0, 1):
            self.assertEqual(last(made + [("sea", p, 1, p, 1)]), [-3])
            self.assertEqual(last(made + [("sea", p, 1, p, 2)]), [-3])

    def test_with_a_land_at_either_end(self):
        made = provinces(LAND, SEA, LAND)
        for p, q in ((0, 1), (1, 0), (0, 2)):
            self.assertEqual(last(made + [("sea", p, 0, q, 0)]), [-3])

    def test_there_already_asked_both_ways(self):
        made = provinces(COAST, COAST) + [("sea", 0, 1, 1, 2)]
        self.assertEqual(last(made + [("sea", 0, 1, 1, 2)]), [-4])
        self.assertEqual(last(made + [("sea", 1, 2, 0, 1)]), [-4])

    def test_each_pair_of_shores_is_another_link(self):
        made = provinces(COAST, COAST)
        links = [("sea", 0, s, 1, t) for s in range(4) for t in range(4)]
        told = run(made + links + links)
        self.assertEqual(told[2:18], [[0]] * 16)
        self.assertEqual(told[18:], [[-4]] * 16)

    def test_shores_go_with_their_own_ends(self):
        self.assertEqual(last(provinces(COAST, COAST) + [("sea", 0, 1, 1, 2), ("sea", 1, 1, 0, 2)]), [0])

    def test_a_land_link_is_no_sea_link(self):
        self.assertEqual(last(provinces(COAST, COAST) + [("land", 0, 1), ("sea", 0, 0, 1, 0)]), [0])

    def test_three_hundred_and_no_more(self):
        told = run(many_sea_links(301))
        self.assertEqual(told[40:340], [[0]] * 300)
        self.assertEqual(told[340], [-2])

    def test_full_comes_last(self):
        full = many_sea_links(300)
        self.assertEqual(last(full + [("sea", 39, 0, 39, 1)]), [-3])
        self.assertEqual(last(full + [("sea", 1, 0, 0, 0)]), [-4])
        self.assertEqual(last(full + [("sea", 0, 4, 1, 0)]), [-1])

    def test_full_of_sea_links_leaves_room_for_land_links(self):
        made = [("province", COAST, 0, -1)] * 40 + many_sea_links(300)[40:]
        self.assertEqual(last(made + [("land", 0, 1)]), [0])


if __name__ == "__main__":
    unittest.main()
