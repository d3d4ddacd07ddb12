"""How a line is read and answered, ranges of arguments, and that refusals change nothing."""

import unittest

from lines import ARMY, COAST, FLEET, HIGHEST, LAND, LOWEST, SEA, NUMBERS, board_after, crowd, do, flat, last
from lines import many_land_links, many_sea_links, provinces, run, whole
from seasonboard.table import answers

# 4 provinces: land, coast, sea, and a centre; fleets and armies driven out of two.
MADE = provinces(LAND, COAST, SEA) + [
    ("province", COAST, 1, 0), ("land", 0, 1), ("sea", 1, 1, 2, 0),
    ("driven", 0, ARMY, 0, 0, -1), ("driven", 1, FLEET, 2, 0, 3), ("man", 2, ARMY, 3, 0),
]

# For each call one that holds on MADE, then the ends of each argument's range.
RANGES = [
    (("province", LAND, 1, 0), [(0, 2), (0, 1), (-1, 6)]),
    (("land", 1, 3), [(0, 3), (0, 3)]),
    (("sea", 1, 2, 3, 2), [(0, 3), (0, 3), (0, 3), (0, 3)]),
    (("man", 0, FLEET, 1, 0), [(0, 6), (0, 1), (0, 3), (0, 3)]),
    (("owner", 3, 1), [(0, 3), (-1, 6)]),
    (("driven", 0, FLEET, 1, 0, -1), [(0, 6), (0, 1), (0, 3), (0, 3), (-1, 3)]),
    (("bar", 1), [(0, 3)]),
    (("choices", 0), [(0, 3)]),
    (("go", 0, 1, 0), [(0, 3), (0, 3), (0, 3)]),
    (("leave", 0), [(0, 3)]),
]


def with_argument(call, k, value):
    return call[:k + 1] + (value,) + call[k + 2:]


class Ranges(unittest.TestCase):
    def test_each_call_is_here(self):
        self.assertEqual({call[0] for call, ends in RANGES} | {"clear"}, set(NUMBERS))

    def test_the_calls_hold_as_they_stand(self):
        for call, ends in RANGES:
            self.assertGreaterEqual(last(MADE + [call])[0], 0, call)

    def test_outside_of_it(self):
        for call, ends in RANGES:
            for k, (least, greatest) in enumerate(ends):
                for value in (least - 1, greatest + 1, LOWEST, HIGHEST):
                    wrong = with_argument(call, k, value)
                    self.assertEqual(last(MADE + [wrong]), [-1], wrong)

    def test_at_its_ends(self):
        for call, ends in RANGES:
            for k, pair in enumerate(ends):
                for value in pair:
                    right = with_argument(call, k, value)
                    self.assertNotEqual(last(MADE + [right]), [-1], right)

    def test_all_arguments_at_the_ends_of_all_numbers(self):
        for call, ends in RANGES:
            for value in (LOWEST, HIGHEST):
                self.assertEqual(last(MADE + [call[:1] + (value,) * len(ends)]), [-1])

    def test_range_comes_before_every_other_refusal(self):
        calls = [
            ("province", SEA, 1, 7), ("land", 2, 4), ("sea", 0, 4, 0, 0), ("man", 7, ARMY, 2, 0),
            ("owner", 0, 7), ("driven", 0, ARMY, 2, 0, 4), ("go", 1, 0, 4),
        ]
        for call in calls:
            self.assertEqual(last(MADE + [call]), [-1], call)

    def test_no_provinces_yet(self):
        for call, ends in RANGES[1:]:
            zeros = call[:1] + (0,) * len(ends)
            self.assertEqual(run([zeros]), [[-1]], zeros)
        self.assertEqual(run([("driven", 0, 0, 0, 0, -1)]), [[-1]])
        self.assertEqual(run([("owner", -1, -1)]), [[-1]])

    def test_with_forty_provinces(self):
        full = provinces(*[COAST] * 40)
        for p, told in ((39, [1]), (40, [-1]), (-1, [-1])):
            self.assertEqual(last(full + [("bar", p)]), told)


class Refusals(unittest.TestCase):
    def check(self, made, calls):
        board = board_after(made)
        board.raises[0] = True
        board.drops[0] = True
        before = whole(board)
        for call, number in calls:
            self.assertEqual(do(board, *call), [number], call)
            self.assertEqual(whole(board), before, call)

    def test_nothing_changes_when_arguments_are_out_of_range(self):
        for call, ends in RANGES:
            for k in range(len(ends)):
                self.check(MADE, [(with_argument(call, k, HIGHEST), -1), (with_argument(call, k, LOWEST), -1)])

    def test_nothing_changes_when_it_does_not_fit(self):
        self.check(MADE + [("go", 0, 1, 0)], [
            (("province", SEA, 1, -1), -3), (("province", LAND, 0, 1), -3),
            (("land", 0, 0), -3), (("land", 0, 2), -3), (("land", 1, 0), -4),
            (("sea", 1, 0, 1, 1), -3), (("sea", 0, 0, 2, 0), -3), (("sea", 2, 0, 1, 1), -4),
            (("man", 0, ARMY, 2, 0), -3), (("man", 0, FLEET, 3, 0), -4), (("owner", 0, 1), -3),
            (("driven", 0, FLEET, 0, 0, -1), -3), (("driven", 6, ARMY, 0, 0, 1), -4),
            (("choices", 1), -5), (("go", 1, 0, 0), -5), (("go", 0, 3, 0), -6), (("leave", 1), -5),
        ])

    def test_nothing_changes_when_it_is_full(self):
        self.check(many_land_links(300), [(("land", 38, 39), -2), (("province", LAND, 0, -1), -2)])
        self.check(many_sea_links(300), [(("sea", 38, 0, 39, 0), -2)])
        self.check(crowd(14, 10), [(("man", 0, ARMY, 30, 0), -2), (("driven", 0, ARMY, 30, 0, -1), -2)])

    def test_a_line_goes_on_behind_a_refusal(self):
        self.assertEqual(run([("bar", 0), ("province", LAND, 0, -1), ("bar", 0)]), [[-1], [0], [1]])


class Line(unittest.TestCase):
    calls = [
        1, 0, 0, -1, 1, 0, 1, 4, 1, 2, 0, -1, 2, 0, 1, 2, 2, 0, 6, 3, 0, 0, 0, -1, 8, 0,
        4, 1, 0, 1, 0, 8, 0, 9, 0, 1, 0, 9, 0, 2, 0, 10, 0, 7, 2, 8, 0, 5, 1, 6, 3, 2, 0, 2, 1, 0, 8, 0,
    ]
    told = [
        1, 0, 1, 1, 1, 2, 1, 0, 1, 0, 1, 0, 5, 2, 1, 0, 2, 0,
        1, 0, 3, 1, 2, 0, 1, -6, 1, 0, 1, 0, 1, 1, 1, 0, 1, 0, 1, -3, 1, 0, 1, -1,
    ]

    def test_number_by_number(self):
        self.assertEqual(answers(list(self.calls)), self.told)

    def test_each_call_may_come_first(self):
        for call, ends in RANGES[1:]:
            self.assertEqual(answers(flat([call])), [1, -1])
        self.assertEqual(answers([0]), [1, 0])
        self.assertEqual(answers([1, 2, 1, 6]), [1, 0])

    def test_what_is_handed_in_stays_as_it_was(self):
        calls = list(self.calls)
        answers(calls)
        self.assertEqual(calls, self.calls)

    def test_it_is_not_changed_for_a_while_either(self):
        class Watched(list):
            def refuse(self, *args):
                raise AssertionError("the list handed in was changed")
            append = extend = insert = pop = remove = reverse = sort = clear = refuse
            __setitem__ = __delitem__ = __iadd__ = __imul__ = refuse
        self.assertEqual(answers(Watched(self.calls)), self.told)

    def test_a_second_time_is_as_the_first(self):
        self.assertEqual(answers(list(self.calls)), answers(list(self.calls)))
        self.assertEqual(answers([8, 0]), [1, -1])

    def test_what_was_given_back_may_be_changed(self):
        first = answers(list(self.calls))
        first.clear()
        self.assertEqual(answers(list(self.calls)), self.told)

    def test_it_gives_back_a_list_of_whole_numbers(self):
        told = answers(list(self.calls))
        self.assertIs(type(told), list)
        self.assertEqual({type(number) for number in told}, {int})

    def test_four_hundred_calls(self):
        full = many_land_links(300)
        asked = full + [("driven", 0, ARMY, 0, 0, -1)] + [("choices", 0)] * 59
        self.assertEqual(len(asked), 400)
        numbers = [39]
        for q in range(1, 40):
            numbers += [q, 0]
        self.assertEqual(run(asked)[341:], [numbers] * 59)


if __name__ == "__main__":
    unittest.main()
