"""Tests of all five calls together: whenever one is called, it is as if for the first time."""

import itertools
import subprocess
import sys
import unittest

from tests.helpers import (
    PATH_OF_THREE, RING_OF_FOUR, RING_OF_FOUR_ALL_ALIKE, RING_OF_SIX, RING_OF_THREE, frozen,
)
from withpebble import nets

# Each round holds all five calls with their answers; the nets are the same lists again and again.
ROUNDS = [
    [
        ("seen", (3, 0, RING_OF_THREE, [1, 3]), [8, 2, 2, 0, 2, 1, 1, 2, 0]),
        ("run", (3, 0, RING_OF_THREE, [1, 3]), [1, 1]),
        ("apart", (3, 4, 0, 0, RING_OF_THREE, RING_OF_FOUR), [3, 3, 4, 4]),
        ("same", (3, 4, 0, 0, RING_OF_THREE, RING_OF_FOUR), [-33]),
        ("both", (3, 4, 0, 0, RING_OF_THREE, RING_OF_FOUR), [0, 0, 0]),
    ],
    [
        ("seen", (4, 3, RING_OF_FOUR_ALL_ALIKE, [4]), [5, 2, 2, 2, 2, 2]),
        ("run", (4, 3, RING_OF_FOUR_ALL_ALIKE, [4]), [0, 0]),
        ("apart", (4, 4, 0, 1, RING_OF_FOUR_ALL_ALIKE, RING_OF_FOUR_ALL_ALIKE), [-6]),
        ("same", (4, 4, 0, 1, RING_OF_FOUR_ALL_ALIKE, RING_OF_FOUR_ALL_ALIKE), [4, 1, 0, 3, 2]),
        ("both", (4, 4, 0, 1, RING_OF_FOUR_ALL_ALIKE, RING_OF_FOUR_ALL_ALIKE), [1, 1, 1]),
    ],
    [
        ("seen", (3, 3, PATH_OF_THREE, []), [-2]),
        ("run", (3, 2, PATH_OF_THREE, [0] * 31), [-22]),
        ("apart", (3, 6, 0, 0, RING_OF_THREE, RING_OF_SIX), [-75]),
        ("same", (3, 3, 0, 0, PATH_OF_THREE, [0, 1]), [-22]),
        ("both", (3, 6, 0, 0, PATH_OF_THREE, RING_OF_SIX), [-75]),
    ],
]
ALL_CALLS = [call for each in ROUNDS for call in each]


class OneBehindAnother(unittest.TestCase):
    def answered(self, calls):
        for name, values, expected in calls:
            answer = getattr(nets, name)(*frozen(values))
            self.assertEqual(answer, expected, (name, values, [call[0] for call in calls]))
            # What was given back is the caller's own: a change of it is not met again.
            answer.append(7)

    def test_each_by_itself(self):
        for name, values, expected in ALL_CALLS:
            lines = f"from withpebble.nets import {name}\nprint({name}(*{values}))"
            done = subprocess.run([sys.executable, "-c", lines], capture_output=True, text=True, timeout=60)
            self.assertEqual(done.stdout, f"{expected}\n", done.stderr)

    def test_in_any_order(self):
        for each in ROUNDS:
            for order in itertools.permutations(each):
                self.answered(order)

    def test_each_behind_each(self):
        for one, other in itertools.product(ALL_CALLS, repeat=2):
            self.answered([one, other, one])

    def test_an_order_of_all_forth_and_back(self):
        for turn in range(len(ALL_CALLS)):
            calls = ALL_CALLS[turn:] + ALL_CALLS[:turn]
            self.answered(calls + calls[::-1])

    def test_nothing_of_the_module_changes(self):
        before = {name: repr(value) for name, value in vars(nets).items() if not name.startswith("__")}
        self.answered(ALL_CALLS)
        after = {name: repr(value) for name, value in vars(nets).items() if not name.startswith("__")}
        self.assertEqual(before, after)


if __name__ == "__main__":
    unittest.main()
