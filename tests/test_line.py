"""How a line is read and answered, ranges of arguments, and that refusals change nothing."""

import unittest

from lines import ARMY, COAST, FLEET, GIVEN, HIGHEST, LAND, LOWEST, NUMBERS, SEA, SEASON
from lines import board_after, crowd, do, flat, last, many_land_links, many_sea_links, provinces, run, whole
from seasonboard.table import answers

# 4 provinces: land, coast, sea, and a centre; fleets and armies driven out of two.
MADE = provinces(LAND, COAST, SEA) + [
    ("province", COAST, 1, 0), ("land", 0, 1), ("sea", 1, 1, 2, 0),
    ("driven", 0, ARMY, 0, 0, -1), ("driven", 1, FLEET, 2, 0, 3), ("man", 2, ARMY, 3, 0),
]

# For each call with arguments: what is made ahead, one that holds there, and the ends of each argument's range.
RANGES = [
    (MADE, ("province", LAND, 1, 0), [(0, 2), (0, 1), (-1, 6)]),
    (MADE, ("land", 1, 3), [(0, 3), (0, 3)]),
    (MADE, ("sea", 1, 2, 3, 2), [(0, 3), (0, 3), (0, 3), (0, 3)]),
    (MADE, ("man", 0, FLEET, 1, 0), [(0, 6), (0, 1), (0, 3), (0, 3)]),
    (MADE, ("owner", 3, 1), [(0, 3), (-1, 6)]),
    (MADE, ("driven", 0, FLEET, 1, 0, -1), [(0, 6), (0, 1), (0, 3), (0, 3), (-1, 3)]),
    (MADE, ("bar", 1), [(0, 3)]),
    (MADE, ("choices", 0), [(0, 3)]),
    (MADE, ("go", 0, 1, 0), [(0, 3), (0, 3), (0, 3)]),
    (MADE, ("leave", 0), [(0, 3)]),
    (MADE, ("balance", 2), [(0, 6)]),
    (MADE, ("sites", 0), [(0, 6)]),
    (SEASON, ("raise", 0, FLEET, 1, 2), [(0, 6), (0, 1), (0, 7), (0, 3)]),
    (SEASON, ("drop", 6), [(0, 7)]),
    (MADE, ("disorder", 2), [(0, 6)]),
    (MADE, ("far", 0, 3), [(0, 6), (0, 3)]),
]
WITHOUT_ARGUMENTS = {"clear", "resolve", "take", "settle", "men", "owners"}


def with_argument(call, k, value):
    return call[:k + 1] + (value,) + call[k + 2:]


class Ranges(unittest.TestCase):
    def test_each_call_is_here(self):
        self.assertEqual({call[0] for made, call, ends in RANGES} | WITHOUT_ARGUMENTS, set(NUMBERS))

    def test_the_calls_hold_as_they_stand(self):
        for made, call, ends in RANGES:
            self.assertGreaterEqual(last(made + [call])[0], 0, call)

    def test_outside_of_it(self):
        for made, call, ends in RANGES:
            for k, (least, greatest) in enumerate(ends):
                for value in (least - 1, greatest + 1, LOWEST, HIGHEST):
                    wrong = with_argument(call, k, value)
                    self.assertEqual(last(made + [wrong]), [-1], wrong)

    def test_at_its_ends(self):
        for made, call, ends in RANGES:
            for k, pair in enumerate(ends):
                for value in pair:
                    right = with_argument(call, k, value)
                    self.assertNotEqual(last(made + [right]), [-1], right)

    def test_all_arguments_at_the_ends_of_all_numbers(self):
        for made, call, ends in RANGES:
            for value in (LOWEST, HIGHEST):
                self.assertEqual(last(made + [call[:1] + (value,) * len(ends)]), [-1])

    def test_range_comes_before_every_other_refusal(self):
        calls = [
            ("province", SEA, 1, 7), ("land", 2, 4), ("sea", 0, 4, 0, 0), ("man", 7, ARMY, 2, 0),
            ("owner", 0, 7), ("driven", 0, ARMY, 2, 0, 4), ("go", 1, 0, 4), ("raise", 0, ARMY, 0, 4),
            ("raise", 0, 2, 0, 0), ("drop", 4), ("far", 7, 1), ("far", 1, 4),
        ]
        for call in calls:
            self.assertEqual(last(MADE + [call]), [-1], call)

    def test_no_provinces_yet(self):
        for made, call, ends in RANGES:
            if call[0] not in ("province", "balance", "sites", "disorder"):
                zeros = call[:1] + (0,) * len(ends)
                self.assertEqual(run([zeros]), [[-1]], zeros)
        self.assertEqual(run([("driven", 0, 0, 0, 0, -1)]), [[-1]])
        self.assertEqual(run([("owner", -1, -1)]), [[-1]])

    def test_with_forty_provinces(self):
        full = provinces(*[COAST] * 40)
        for p, told in ((39, [1]), (40, [-1]), (-1, [-1])):
            self.assertEqual(last(full + [("bar", p)]), told)
        for p, told in ((39, -9), (40, -1), (-1, -1)):
            self.assertEqual(last(full + [("far", 0, p)]), [told])


class Refusals(unittest.TestCase):
    def check(self, made, calls):
        board = board_after(made)
        before = whole(board)
        for call, number in calls:
            self.assertEqual(do(board, *call), [number], call)
            self.assertEqual(whole(board), before, call)

    def test_nothing_changes_when_arguments_are_out_of_range(self):
        for made, call, ends in RANGES:
            for k in range(len(ends)):
                wrong = [(with_argument(call, k, HIGHEST), -1), (with_argument(call, k, LOWEST), -1)]
                self.check(MADE, wrong)
                self.check(GIVEN, wrong)

    def test_nothing_changes_when_it_does_not_fit(self):
        self.check(MADE + [("go", 0, 1, 0)], [
            (("province", SEA, 1, -1), -3), (("province", LAND, 0, 1), -3),
            (("land", 0, 0), -3), (("land", 0, 2), -3), (("land", 1, 0), -4),
            (("sea", 1, 0, 1, 1), -3), (("sea", 0, 0, 2, 0), -3), (("sea", 2, 0, 1, 1), -4),
            (("man", 0, ARMY, 2, 0), -3), (("man", 0, FLEET, 3, 0), -4), (("owner", 0, 1), -3),
            (("driven", 0, FLEET, 0, 0, -1), -3), (("driven", 6, ARMY, 0, 0, 1), -4),
            (("choices", 1), -5), (("go", 1, 0, 0), -5), (("go", 0, 3, 0), -6), (("leave", 1), -5),
            (("far", 1, 0), -9),
        ])

    def test_nothing_changes_when_units_are_driven_out(self):
        for made in (MADE + [("go", 0, 1, 0), ("bar", 2)], SEASON + [("driven", 2, ARMY, 3, 0, -1)]):
            self.check(made, [(("take",), -7), (("raise", 0, ARMY, 0, 0), -7), (("drop", 2), -7), (("settle",), -7)])

    def test_raises_and_drops_stay_when_it_does_not_fit(self):
        self.check(GIVEN, [
            (("man", 0, FLEET, 0, 0), -3), (("man", 0, ARMY, 2, 0), -4), (("owner", 5, 0), -3),
            (("driven", 0, ARMY, 5, 0, -1), -3), (("choices", 2), -5), (("go", 2, 1, 0), -5), (("leave", 2), -5),
            (("raise", 0, ARMY, 2, 0), -6), (("raise", 0, FLEET, 0, 0), -3), (("raise", 0, FLEET, 1, 2), -4),
            (("drop", 5), -5), (("drop", 6), -4), (("drop", 2), -8), (("far", 2, 0), -9),
        ])

    def test_nothing_changes_when_it_is_full(self):
        self.check(many_land_links(300), [(("land", 38, 39), -2), (("province", LAND, 0, -1), -2)])
        self.check(many_sea_links(300), [(("sea", 38, 0, 39, 0), -2)])
        self.check(crowd(14, 10), [(("man", 0, ARMY, 30, 0), -2), (("driven", 0, ARMY, 30, 0, -1), -2)])
        homes = [("province", LAND, 1, 0)] * 30 + [("owner", p, 0) for p in range(30)]
        self.check(homes + [("raise", 0, ARMY, p, 0) for p in range(24)], [(("raise", 0, ARMY, 24, 0), -2)])

    def test_a_line_goes_on_behind_a_refusal(self):
        self.assertEqual(run([("bar", 0), ("province", LAND, 0, -1), ("bar", 0)]), [[-1], [0], [1]])


class Line(unittest.TestCase):
    calls = [
        1, 0, 0, -1, 1, 0, 1, 4, 1, 2, 0, -1, 2, 0, 1, 2, 2, 0, 6, 3, 0, 0, 0, -1, 8, 0,
        4, 1, 0, 1, 0, 8, 0, 9, 0, 1, 0, 9, 0, 2, 0, 10, 0, 7, 2, 8, 0, 5, 1, 6, 3, 2, 0, 2, 1, 0, 8, 0,
        0, 1, 2, 1, 4, 1, 0, 1, -1, 1, 0, 0, -1, 2, 0, 1, 5, 0, 4, 6, 2, 0, 2, 0, -1, 17, 2, 1, 2, 9, 2, 1, 0, 11,
        12, 13, 4, 14, 4, 15, 4, 1, 0, 3, 16, 1, 20, 17, 18, 2, 19, 4, 2, 19, 2, 0, 20, 21,
    ]
    told = [
        1, 0, 1, 1, 1, 2, 1, 0, 1, 0, 1, 0, 5, 2, 1, 0, 2, 0,
        1, 0, 3, 1, 2, 0, 1, -6, 1, 0, 1, 0, 1, 1, 1, 0, 1, 0, 1, -3, 1, 0, 1, -1,
        1, 0, 1, 0, 1, 1, 1, 2, 1, 0, 1, 0, 1, 0, 1, -7, 1, 0, 1, 0, 4, 1, 2, 1, 0,
        1, 1, 4, 1, 0, 0, 0, 2, 1, 0, 1, 0, 1, -8, 5, 1, 1, 2, 0, 0, 6, 1, 0, 4, 1, 3, 0, 2, 1, 1, 1, 2, 1, -9,
        9, 2, 0, 4, 1, 3, 1, 2, 0, 0, 5, 2, 0, 5, 1, 3,
    ]

    def test_number_by_number(self):
        self.assertEqual(answers(list(self.calls)), self.told)

    def test_each_call_may_come_first(self):
        for call in (("land", 0, 1), ("sea", 0, 0, 1, 0), ("man", 0, 0, 0, 0), ("owner", 0, 0),
                     ("driven", 0, 0, 0, 0, -1), ("bar", 0), ("choices", 0), ("go", 0, 1, 0), ("leave", 0),
                     ("raise", 0, 0, 0, 0), ("drop", 0), ("far", 0, 0)):
            self.assertEqual(answers(flat([call])), [1, -1])
        for call in (("clear",), ("resolve",), ("take",), ("sites", 6), ("disorder", 0), ("men",), ("owners",)):
            self.assertEqual(answers(flat([call])), [1, 0])
        self.assertEqual(answers([1, 2, 1, 6]), [1, 0])
        self.assertEqual(answers([13, 0]), [4, 0, 0, 0, 0])
        self.assertEqual(answers([17]), [2, 0, 0])

    def test_what_is_handed_in_stays_as_it_was(self):
        calls = list(self.calls)
        answers(calls)
        self.assertEqual(calls, self.calls)

    def test_it_is_not_changed_for_a_while_either(self):
        class Watched(list):
            def refuse(self, *args):
                raise AssertionError("the list handed in was changed")
            append = extend = insert = pop = remove = reverse = sort = clear = refuse
            __setitem__ = __delitem__ = __iadd__ = __imul__ = refuse
        self.assertEqual(answers(Watched(self.calls)), self.told)

    def test_a_second_time_is_as_the_first(self):
        self.assertEqual(answers(list(self.calls)), answers(list(self.calls)))
        self.assertEqual(answers([8, 0]), [1, -1])

    def test_what_was_given_back_may_be_changed(self):
        first = answers(list(self.calls))
        first.clear()
        self.assertEqual(answers(list(self.calls)), self.told)

    def test_it_gives_back_a_list_of_whole_numbers(self):
        told = answers(list(self.calls))
        self.assertIs(type(told), list)
        self.assertEqual({type(number) for number in told}, {int})

    def test_four_hundred_calls(self):
        full = many_land_links(300)
        asked = full + [("driven", 0, ARMY, 0, 0, -1)] + [("choices", 0)] * 59
        self.assertEqual(len(asked), 400)
        numbers = [39]
        for q in range(1, 40):
            numbers += [q, 0]
        self.assertEqual(run(asked)[341:], [numbers] * 59)

    def test_four_hundred_calls_of_a_whole_season(self):
        # A chain of 40 coasts, the first 7 homes of the 7 powers; 24 units behind them, in turns.
        made = [("province", COAST, 1, p if p < 7 else -1) for p in range(40)]
        made += [("land", p, p + 1) for p in range(0, 39, 2)] + [("sea", p, 1, p + 1, 2) for p in range(1, 39, 2)]
        made += [("owner", p, p % 7) for p in range(14)] + [("man", p % 7, p % 2, p, 0) for p in range(14, 37)]
        made += [("driven", 2, ARMY, 16, 0, -1), ("go", 16, 17, 0), ("go", 37, 38, 0), ("leave", 16), ("resolve",)]
        told = run(made)
        self.assertEqual(told[-5:], [[0], [-6], [-5], [0], [1, 16, -1, 0]])
        self.assertEqual([part for part in told[:-4] if part[0] < 0], [])
        asked = [("far", power, p) for power in range(7) for p in range(39, 5, -1)]
        asked += [("disorder", power) for power in range(7)]
        asked += [("drop", 14), ("drop", 35), ("drop", 21), ("raise", 0, FLEET, 0, 3), ("men",), ("settle",)]
        asked += [("balance", power) for power in range(7)] + [("men",)]
        calls = made + asked
        calls = calls[:-1] + [("owners",)] * (400 - len(calls)) + calls[-1:]
        self.assertEqual(len(calls), 400)
        told = run(calls)
        answered = told[len(made):]
        self.assertEqual(answered[:238], [[abs(p - power)] for power in range(7) for p in range(39, 5, -1)])
        units = {power: [p for p in range(36, 13, -1) if p % 7 == power] for power in range(7)}
        self.assertEqual(answered[238:245], [[len(units[power])] + units[power] for power in range(7)])
        self.assertEqual(answered[245:249], [[0], [0], [-8], [-8]])
        # Power 0 has 35, 28, 21, 14 and drops 35 and 14; 1 has 36, 29, 22, 15; the others have three each.
        self.assertEqual(answered[250], [0, 9, 14, 29, 30, 31, 32, 33, 34, 35, 36])
        self.assertEqual(answered[251:258], [[2, 2, 0, 0]] * 7)
        left = [number for p in range(15, 29) for number in (p, p % 7, p % 2, 0)]
        self.assertEqual(told[-1], [14] + left)


if __name__ == "__main__":
    unittest.main()
