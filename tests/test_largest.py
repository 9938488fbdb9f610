"""Lists of 80 calls on the largest designs: they end soon, and late calls are answered as the first."""

import time
import unittest

from tests.calling import ask, begins, far, fewest, needed, plan, rests

ALL = 2 ** 8 - 1
PROPS = 64 + 128

# More than enough even for a slow machine, and far too little for a walk of all orders of the moves.
SECONDS = 20

DESIGNS = {
    "on the ground": [[0]] * 6,
    "on the ground at last": [[ALL, ALL, ALL, 0]] * 6,
    "a circle on both props": [[PROPS, 2 ** ((piece + 1) % 6)] for piece in range(6)],
    "on props for ever": [[ALL, ALL, 64, 128]] * 6,
    "all but one": [[0]] * 5 + [[]],
    "one behind another": [[2 ** piece // 2, ALL, ALL, ALL] for piece in range(6)],
}

PLANS = {
    "on the ground": [0, 1, 2, 3, 4, 5],
    "on the ground at last": [0, 1, 2, 3, 4, 5],
    "a circle on both props": [10, 11, 0, 1, 2, 3, 4, 5, 20, 21],
    "one behind another": [0, 1, 2, 3, 4, 5],
}

FAR = {
    "on the ground": (6, [63, 256]),
    "on the ground at last": (6, [63, 256]),
    "a circle on both props": (6, [63, 70]),
    "on props for ever": (6, [127, 193]),
    "all but one": (5, [31, 128]),
    "one behind another": (6, [63, 28]),
}


class Largest(unittest.TestCase):
    def all_calls(self, name, asking):
        line = [begins(6, 2, 2)] + [rests(piece, base) for piece in range(6) for base in DESIGNS[name][piece]]
        started = time.monotonic()
        told = ask(*line, *[asking] * (80 - len(line)))[len(line):]
        self.assertLess(time.monotonic() - started, SECONDS)
        self.assertEqual(told, told[:1] * len(told))
        return told[0]

    def test_plan(self):
        for name in DESIGNS:
            with self.subTest(name=name):
                moves = PLANS.get(name)
                self.assertEqual(self.all_calls(name, plan()), -6 if moves is None else (len(moves), moves))

    def test_fewest(self):
        for name in DESIGNS:
            with self.subTest(name=name):
                self.assertEqual(self.all_calls(name, fewest()), len(PLANS[name]) if name in PLANS else -6)

    def test_far(self):
        for name in DESIGNS:
            with self.subTest(name=name):
                self.assertEqual(self.all_calls(name, far()), FAR[name])

    def test_needed(self):
        for name in DESIGNS:
            with self.subTest(name=name):
                at_once = 2 if name == "a circle on both props" else 0
                self.assertEqual(self.all_calls(name, needed()), at_once if name in PLANS else -6)


if __name__ == "__main__":
    unittest.main()
