"""Calls that only ask change nothing: what is asked ahead of them and behind them is answered alike."""

import unittest

from tests.calling import ask, begins, carries, does, falls, far, fewest, needed, plan, rests, spare, state, undo

ASKING = [fewest(), plan(), far(), needed(), spare(), state()]

LINES = {
    "an arch": [begins(2, 1, 1), rests(0, 4), rests(0, 2), rests(1, 1), does(10), does(0), does(20), does(1), does(20),
                undo(), does(1), rests(1, 0), does(1)],
    "too few props at once": [begins(2, 2, 0), rests(0, 4), rests(0, 2), rests(1, 1), does(10), does(0), carries(3),
                              falls(5), begins(2, 2, 1), does(10), does(11)],
    "no plan from there": [begins(3, 2, 1), rests(0, 8), rests(0, 2), rests(1, 16), rests(1, 5), rests(2, 2), does(10),
                           does(0), does(11), undo(), does(11), does(1), does(0)],
    "no end": [begins(2, 0, 0), rests(0, 0), does(0), rests(1, 0), does(1), undo(), rests(1, 1), does(0), does(1)],
    "without begins": [does(0), rests(0, 0), does(0), undo(), rests(0, 0), rests(0, 1), rests(0, 1), rests(0, 1)],
}


class Asking(unittest.TestCase):
    def test_the_other_calls_are_answered_alike(self):
        for name, line in LINES.items():
            for asking in [*ASKING, carries(1), falls(3)]:
                with self.subTest(name=name, asking=asking):
                    told = ask(asking, *[call for one in line for call in (one, asking, asking)])
                    self.assertEqual(told[1::3], ask(*line))
                    self.assertEqual(told[2::3], told[3::3])

    def test_all_that_is_asked_is_answered_alike(self):
        for name, line in LINES.items():
            for asking in ASKING:
                with self.subTest(name=name, asking=asking):
                    told = ask(*line, *ASKING, asking, *ASKING)[len(line):]
                    self.assertEqual(told[:6], told[7:])
                    self.assertEqual(told[6], told[ASKING.index(asking)])

    def test_what_is_asked_alone_is_answered_as_among_others(self):
        for name, line in LINES.items():
            among = ask(*line, *ASKING, *reversed(ASKING))[len(line):]
            for place, asking in enumerate(ASKING):
                with self.subTest(name=name, asking=asking):
                    alone = ask(*line, asking)[-1]
                    self.assertEqual(among[place], alone)
                    self.assertEqual(among[-1 - place], alone)


if __name__ == "__main__":
    unittest.main()
