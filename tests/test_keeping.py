"""Which calls leave raises and drops as they are, and behind which nothing is to be raised or dropped any more."""

import unittest

from lines import ARMY, FLEET, GIVEN, LAND, NUMBERS, SEASON, last, run

KEPT = [[4, 1, 1, 0], [1, 3, 0, 1]]

# A call behind GIVEN that isn't refused, and the balances of powers 0 and 1 behind it.
FORGETTING = {
    ("clear",): [[0, 0, 0, 0], [0, 0, 0, 0]],
    ("man", 2, ARMY, 3, 0): [[4, 1, 0, 0], [1, 3, 0, 0]],
    ("owner", 0, 0): [[4, 1, 0, 0], [1, 3, 0, 0]],
    ("owner", 0, -1): [[3, 1, 0, 0], [1, 3, 0, 0]],
    ("driven", 2, ARMY, 3, 0, -1): [[4, 1, 0, 0], [1, 3, 0, 0]],
    ("resolve",): [[4, 1, 0, 0], [1, 3, 0, 0]],
    ("take",): [[4, 1, 0, 0], [1, 3, 0, 0]],
    ("settle",): [[4, 2, 0, 0], [1, 1, 0, 0]],
}
KEEPING = [
    ("province", LAND, 1, 0), ("land", 0, 6), ("sea", 1, 2, 5, 0), ("bar", 0), ("bar", 1), ("bar", 6),
    ("balance", 1), ("sites", 0), ("disorder", 1), ("far", 1, 7), ("men",), ("owners",),
]
# These need a unit driven out, and then nothing is raised or dropped; or they add to raises and drops.
OTHERS = ("choices", "go", "leave", "raise", "drop")


def balances(calls):
    return run(calls + [("balance", 0), ("balance", 1)])[-2:]


class RaisesAndDrops(unittest.TestCase):
    def test_each_call_is_here(self):
        names = {call[0] for call in list(FORGETTING) + KEEPING} | set(OTHERS)
        self.assertEqual(names, set(NUMBERS))

    def test_there_are_some(self):
        self.assertEqual(balances(GIVEN), KEPT)

    def test_forgotten(self):
        for call, told in FORGETTING.items():
            self.assertGreaterEqual(last(GIVEN + [call])[0], 0, call)
            self.assertEqual(balances(GIVEN + [call]), told, call)

    def test_nothing_of_them_comes_when_it_is_settled(self):
        for call in FORGETTING:
            if call[0] in ("man", "take", "resolve"):
                rest = [("settle",)]
                self.assertEqual(last(GIVEN + [call] + rest), last(SEASON + [call] + rest), call)
        # What was raised and dropped may be raised and dropped again.
        told = run(GIVEN + [("take",), ("raise", 0, FLEET, 1, 2), ("drop", 6), ("drop", 4)])[-3:]
        self.assertEqual(told, [[0], [0], [0]])

    def test_forgotten_when_a_unit_is_driven_out_and_is_gone(self):
        calls = GIVEN + [("driven", 2, ARMY, 3, 0, -1), ("leave", 3), ("resolve",)]
        self.assertEqual(balances(calls), [[4, 1, 0, 0], [1, 3, 0, 0]])
        self.assertEqual(last(calls + [("settle",)]), [0, 2, 6, 7])

    def test_kept(self):
        for call in KEEPING:
            self.assertGreaterEqual(last(GIVEN + [call])[0], 0, call)
            self.assertEqual(balances(GIVEN + [call]), KEPT, call)
            self.assertEqual(last(GIVEN + [call, ("settle",)]), [1, 1, 0, 1, 2, 2, 6, 7], call)

    def test_a_way_made_since_counts_for_disorder(self):
        made = [("province", LAND, 1, 1)] + [("province", LAND, 0, -1)] * 3 + [("land", 0, 1), ("land", 1, 2)]
        made += [("owner", 0, 1)] + [("man", 1, ARMY, p, 0) for p in (1, 2, 3)] + [("drop", 1)]
        self.assertEqual(last(made + [("settle",)]), [0, 2, 1, 3])
        self.assertEqual(last(made + [("land", 0, 3), ("settle",)]), [0, 2, 1, 2])

    def test_kept_by_other_raises_and_drops(self):
        self.assertEqual(balances(GIVEN + [("raise", 0, ARMY, 0, 0)]), [[4, 1, 2, 0], [1, 3, 0, 1]])
        self.assertEqual(balances(GIVEN + [("drop", 7)]), [[4, 1, 1, 0], [1, 3, 0, 2]])

    def test_kept_by_each_refusal(self):
        refused = [
            ("province", 1, 1, -1), ("land", 0, 0), ("sea", 0, 0, 1, 0), ("man", 0, ARMY, 2, 0), ("man", 0, FLEET, 0, 0),
            ("owner", 6, 0), ("owner", 0, 7), ("driven", 0, FLEET, 0, 0, -1), ("driven", 0, ARMY, 0, 0, 8), ("bar", 8),
            ("choices", 0), ("go", 0, 1, 0), ("leave", 0), ("balance", 7), ("sites", -1), ("raise", 0, ARMY, 1, 0),
            ("drop", 6), ("disorder", 7), ("far", 6, 0),
        ]
        for call in refused:
            self.assertLess(last(GIVEN + [call])[0], 0, call)
            self.assertEqual(balances(GIVEN + [call]), KEPT, call)
            self.assertEqual(last(GIVEN + [call, ("settle",)]), [1, 1, 0, 1, 2, 2, 6, 7], call)


if __name__ == "__main__":
    unittest.main()
