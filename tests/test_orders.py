"""The calls choices, go and leave, and promise 3 as far as they reach."""

import itertools
import unittest

from lines import ARMY, COAST, FLEET, LAND, SEA, board_after, do, last, provinces, run, whole
from seasonboard.board import NO_ORDER, ORDER_GO, ORDER_LEAVE

# Provinces 0 to 5; an army driven out of 2 has land links to 5, 0, 3 and 1.
ARMY_OUT = provinces(LAND, COAST, LAND, COAST, LAND, LAND) + [
    ("land", 2, 5), ("land", 0, 2), ("land", 3, 2), ("land", 2, 1), ("land", 4, 5),
    ("driven", 0, ARMY, 2, 0, -1),
]


def fleet_out(shore):
    """A fleet driven out of coast 1, each shore of which leads to other places."""
    return provinces(SEA, COAST, COAST, SEA) + [
        ("sea", 1, 0, 0, 0), ("sea", 1, 0, 2, 3), ("sea", 2, 1, 1, 0),
        ("sea", 1, 1, 0, 0), ("sea", 3, 0, 1, 1),
        ("sea", 1, 2, 3, 2), ("sea", 1, 2, 3, 0),
        ("sea", 0, 0, 2, 0), ("land", 1, 2),
        ("driven", 0, FLEET, 1, shore, -1),
    ]


class Choices(unittest.TestCase):
    def test_none_driven_out_of_there(self):
        self.assertEqual(last(provinces(LAND) + [("choices", 0)]), [-5])
        self.assertEqual(last(ARMY_OUT + [("choices", 0)]), [-5])

    def test_a_unit_that_stands_there_has_none(self):
        self.assertEqual(last(provinces(LAND) + [("man", 0, ARMY, 0, 0), ("choices", 0)]), [-5])

    def test_no_links_no_choices(self):
        self.assertEqual(last(provinces(LAND, LAND) + [("driven", 0, ARMY, 0, 0, -1), ("choices", 0)]), [0])

    def test_of_an_army_in_the_order_of_provinces(self):
        self.assertEqual(last(ARMY_OUT + [("choices", 2)]), [4, 0, 0, 1, 0, 3, 0, 5, 0])

    def test_an_army_takes_no_sea_link(self):
        made = provinces(COAST, COAST, SEA) + [("sea", 0, 0, 1, 0), ("sea", 0, 0, 2, 0)]
        self.assertEqual(last(made + [("driven", 0, ARMY, 0, 0, -1), ("choices", 0)]), [0])

    def test_of_a_fleet_at_each_shore(self):
        self.assertEqual(last(fleet_out(0) + [("choices", 1)]), [3, 0, 0, 2, 1, 2, 3])
        self.assertEqual(last(fleet_out(1) + [("choices", 1)]), [2, 0, 0, 3, 0])
        self.assertEqual(last(fleet_out(2) + [("choices", 1)]), [2, 3, 0, 3, 2])
        self.assertEqual(last(fleet_out(3) + [("choices", 1)]), [0])

    def test_of_a_fleet_in_a_sea_to_each_shore(self):
        made = provinces(SEA, COAST) + [("sea", 1, t, 0, 0) for t in (3, 1, 0, 2)]
        told = last(made + [("driven", 0, FLEET, 0, 0, -1), ("choices", 0)])
        self.assertEqual(told, [4, 1, 0, 1, 1, 1, 2, 1, 3])

    def test_links_lead_both_ways(self):
        for link in (("land", 0, 1), ("land", 1, 0)):
            made = provinces(COAST, COAST) + [link]
            self.assertEqual(last(made + [("driven", 0, ARMY, 0, 0, -1), ("choices", 0)]), [1, 1, 0])
            self.assertEqual(last(made + [("driven", 0, ARMY, 1, 0, -1), ("choices", 1)]), [1, 0, 0])
        for link in (("sea", 0, 2, 1, 3), ("sea", 1, 3, 0, 2)):
            made = provinces(COAST, COAST) + [link]
            self.assertEqual(last(made + [("driven", 0, FLEET, 0, 2, -1), ("choices", 0)]), [1, 1, 3])
            self.assertEqual(last(made + [("driven", 0, FLEET, 1, 3, -1), ("choices", 1)]), [1, 0, 2])
            self.assertEqual(last(made + [("driven", 0, FLEET, 0, 3, -1), ("choices", 0)]), [0])

    def test_barred_ones_are_out(self):
        self.assertEqual(last(ARMY_OUT + [("bar", 1), ("bar", 5), ("choices", 2)]), [2, 0, 0, 3, 0])
        self.assertEqual(last(fleet_out(0) + [("bar", 2), ("choices", 1)]), [1, 0, 0])

    def test_ones_with_a_unit_are_out(self):
        self.assertEqual(last(ARMY_OUT + [("man", 0, ARMY, 0, 0), ("choices", 2)]), [3, 1, 0, 3, 0, 5, 0])
        self.assertEqual(last(fleet_out(0) + [("man", 0, ARMY, 2, 0), ("choices", 1)]), [1, 0, 0])

    def test_barring_its_own_province_or_a_unit_there_changes_nothing(self):
        calls = ARMY_OUT + [("bar", 2), ("man", 1, ARMY, 2, 0), ("choices", 2)]
        self.assertEqual(last(calls), [4, 0, 0, 1, 0, 3, 0, 5, 0])

    def test_the_province_its_driver_came_from_is_out(self):
        made = ARMY_OUT[:-1]
        self.assertEqual(last(made + [("driven", 0, ARMY, 2, 0, 3), ("choices", 2)]), [3, 0, 0, 1, 0, 5, 0])
        self.assertEqual(last(made + [("driven", 0, ARMY, 2, 0, 0), ("choices", 2)]), [3, 1, 0, 3, 0, 5, 0])
        self.assertEqual(last(made + [("driven", 0, ARMY, 2, 0, 4), ("choices", 2)]), [4, 0, 0, 1, 0, 3, 0, 5, 0])
        self.assertEqual(last(made + [("driven", 0, ARMY, 2, 0, 2), ("choices", 2)]), [4, 0, 0, 1, 0, 3, 0, 5, 0])

    def test_that_holds_for_a_fleet_at_all_shores(self):
        made = fleet_out(0)[:-1]
        self.assertEqual(last(made + [("driven", 0, FLEET, 1, 0, 2), ("choices", 1)]), [1, 0, 0])

    def test_where_another_was_driven_out_one_may_go(self):
        self.assertEqual(last(ARMY_OUT + [("driven", 1, ARMY, 1, 0, -1), ("choices", 2)]), [4, 0, 0, 1, 0, 3, 0, 5, 0])

    def test_links_made_later_count(self):
        calls = ARMY_OUT + [("land", 4, 2), ("choices", 2)]
        self.assertEqual(last(calls), [5, 0, 0, 1, 0, 3, 0, 4, 0, 5, 0])

    def test_asking_changes_nothing(self):
        board = board_after(ARMY_OUT)
        before = whole(board)
        self.assertEqual(do(board, "choices", 2), do(board, "choices", 2))
        self.assertEqual(whole(board), before)


class Go(unittest.TestCase):
    def test_to_each_of_its_choices(self):
        for q in (0, 1, 3, 5):
            board = board_after(ARMY_OUT)
            self.assertEqual(do(board, "go", 2, q, 0), [0])
            self.assertEqual((board.driven[2].order, board.driven[2].goal), (ORDER_GO, (q, 0)))

    def test_a_fleet_to_a_shore(self):
        board = board_after(fleet_out(0))
        self.assertEqual(do(board, "go", 1, 2, 3), [0])
        self.assertEqual((board.driven[1].order, board.driven[1].goal), (ORDER_GO, (2, 3)))

    def test_none_driven_out_of_there(self):
        self.assertEqual(last(ARMY_OUT + [("go", 0, 2, 0)]), [-5])

    def test_none_there_comes_before_no_choice(self):
        self.assertEqual(last(ARMY_OUT + [("go", 0, 4, 3)]), [-5])
        self.assertEqual(last(ARMY_OUT + [("go", 0, 4, 4)]), [-1])

    def test_no_choice(self):
        for q, s in ((4, 0), (2, 0), (0, 1), (1, 3)):
            self.assertEqual(last(ARMY_OUT + [("go", 2, q, s)]), [-6])
        for q, s in ((0, 1), (2, 0), (2, 2), (3, 0), (1, 0)):
            self.assertEqual(last(fleet_out(0) + [("go", 1, q, s)]), [-6])

    def test_no_choice_any_more(self):
        self.assertEqual(last(ARMY_OUT + [("bar", 3), ("go", 2, 3, 0)]), [-6])
        self.assertEqual(last(ARMY_OUT + [("man", 0, ARMY, 3, 0), ("go", 2, 3, 0)]), [-6])
        self.assertEqual(last(ARMY_OUT[:-1] + [("driven", 0, ARMY, 2, 0, 3), ("go", 2, 3, 0)]), [-6])

    def test_an_order_given_anew(self):
        board = board_after(ARMY_OUT + [("go", 2, 0, 0), ("go", 2, 5, 0)])
        self.assertEqual((board.driven[2].order, board.driven[2].goal), (ORDER_GO, (5, 0)))
        self.assertEqual(do(board, "leave", 2), [0])
        self.assertEqual((board.driven[2].order, board.driven[2].goal), (ORDER_LEAVE, None))
        self.assertEqual(do(board, "go", 2, 1, 0), [0])
        self.assertEqual((board.driven[2].order, board.driven[2].goal), (ORDER_GO, (1, 0)))

    def test_a_refused_order_leaves_the_one_before(self):
        board = board_after(ARMY_OUT + [("go", 2, 0, 0)])
        self.assertEqual(do(board, "go", 2, 4, 0), [-6])
        self.assertEqual((board.driven[2].order, board.driven[2].goal), (ORDER_GO, (0, 0)))

    def test_an_order_moves_nobody(self):
        board = board_after(ARMY_OUT + [("go", 2, 0, 0)])
        self.assertEqual(board.units, {})
        self.assertEqual(do(board, "choices", 2), [4, 0, 0, 1, 0, 3, 0, 5, 0])


class Leave(unittest.TestCase):
    def test_no_order_yet_is_neither_going_nor_leaving(self):
        self.assertEqual(len({NO_ORDER, ORDER_GO, ORDER_LEAVE}), 3)

    def test_ordered_to_leave(self):
        board = board_after(ARMY_OUT)
        self.assertEqual(board.driven[2].order, NO_ORDER)
        self.assertEqual(do(board, "leave", 2), [0])
        self.assertEqual((board.driven[2].order, board.driven[2].goal), (ORDER_LEAVE, None))

    def test_again_and_without_choices(self):
        calls = provinces(LAND) + [("driven", 0, ARMY, 0, 0, -1), ("leave", 0), ("leave", 0)]
        self.assertEqual(run(calls)[2:], [[0], [0]])

    def test_it_is_there_still(self):
        self.assertEqual(last(ARMY_OUT + [("leave", 2), ("choices", 2)]), [4, 0, 0, 1, 0, 3, 0, 5, 0])
        self.assertEqual(last(ARMY_OUT + [("leave", 2), ("driven", 0, ARMY, 2, 0, -1)]), [-4])

    def test_none_driven_out_of_there(self):
        self.assertEqual(last(ARMY_OUT + [("leave", 0)]), [-5])
        self.assertEqual(last(provinces(LAND) + [("man", 0, ARMY, 0, 0), ("leave", 0)]), [-5])


class OrderOfOrders(unittest.TestCase):
    made = provinces(LAND, LAND, LAND, LAND) + [
        ("land", 0, 3), ("land", 1, 3), ("land", 2, 3), ("land", 0, 1),
        ("driven", 0, ARMY, 0, 0, -1), ("driven", 1, ARMY, 1, 0, -1), ("driven", 2, ARMY, 2, 0, 3),
    ]
    orders = [("go", 0, 3, 0), ("go", 1, 3, 0), ("leave", 2), ("go", 2, 3, 0)]
    asked = [("choices", 0), ("choices", 1), ("choices", 2)]

    def test_it_does_not_matter(self):
        told = set()
        ends = []
        for orders in itertools.permutations(self.orders):
            parts = run(self.made + list(orders) + self.asked)
            given = dict(zip(orders, [tuple(part) for part in parts[len(self.made):]]))
            told.add((tuple(sorted(given.items())), str(parts[-3:])))
            board = board_after(self.made)
            for order in orders:
                do(board, *order)
            ends.append(whole(board))
        self.assertEqual(len(told), 1)
        self.assertEqual([end for end in ends if end != ends[0]], [])
        self.assertEqual(sorted(told.pop()[0])[0], (("go", 0, 3, 0), (0,)))

    def test_two_may_be_ordered_to_one_province(self):
        self.assertEqual(run(self.made + self.orders)[-4:], [[0], [0], [0], [-6]])


if __name__ == "__main__":
    unittest.main()
