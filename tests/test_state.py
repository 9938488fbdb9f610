"""The call state."""

import unittest

from bridgestages.bridge import answers
from tests.calling import ask, begins, carries, does, falls, far, fewest, needed, plan, rests, spare, state, undo


class AtTheBeginning(unittest.TestCase):
    def test_without_begins(self):
        self.assertEqual(ask(state()), [(0, [1, 0, 0], [0])])
        self.assertEqual(ask(state(), rests(0, 1), state()), [(0, [1, 0, 0], [0]), 1, (0, [1, 0, 0], [1, 1])])

    def test_its_numbers_as_they_stand(self):
        self.assertEqual(answers([11]), [7, 0, 3, 1, 0, 0, 1, 0])
        self.assertEqual(answers([0, 2, 1, 1, 1, 1, 7, 1, 1, 0, 11])[6:], [10, 0, 3, 2, 1, 1, 4, 0, 2, 7, 0])


class TheStage(unittest.TestCase):
    def test_behind_each_move(self):
        line = [begins(2, 2, 2), rests(0, 4), rests(0, 2), rests(1, 1)]
        moves = [10, 11, 0, 21, 1, 20]
        told = ask(*line, *[call for move in moves for call in (does(move), state())])[4:]
        self.assertEqual(told[0::2], [4, 12, 13, 5, 7, 3])
        self.assertEqual(told[1::2], [(stage, [2, 2, 2], [2, 4, 2, 1, 1]) for stage in told[0::2]])

    def test_behind_a_move_that_is_refused(self):
        told = ask(begins(1, 1, 1), does(10), does(0), state(), does(9), state(), does(10), state())
        self.assertEqual(told[2:], [-6, (2, [1, 1, 1], [0]), -1, (2, [1, 1, 1], [0]), -6, (2, [1, 1, 1], [0])])

    def test_behind_undo(self):
        told = ask(begins(1, 2, 2), rests(0, 0), does(11), does(0), state(), undo(), state())
        self.assertEqual(told[4:], [(5, [1, 2, 2], [1, 0]), 0, (0, [1, 2, 2], [1, 0])])


class TheCounts(unittest.TestCase):
    def test_of_every_design(self):
        for pieces in range(1, 7):
            for props in range(3):
                for at_once in range(props + 1):
                    with self.subTest(pieces=pieces, props=props, at_once=at_once):
                        told = ask(begins(pieces, props, at_once), state())
                        self.assertEqual(told, [0, (0, [pieces, props, at_once], [0] * pieces)])

    def test_a_new_design(self):
        told = ask(begins(2, 2, 1), rests(0, 0), rests(1, 3), does(0), does(11), state(), begins(3, 1, 0), state())
        self.assertEqual(told[5:], [(9, [2, 2, 1], [1, 0, 1, 3]), 0, (0, [3, 1, 0], [0, 0, 0])])

    def test_a_begins_that_is_refused(self):
        there = (9, [2, 2, 1], [1, 0, 1, 3])
        for refused in (begins(0, 0, 0), begins(7, 1, 1), begins(1, 3, 3), begins(1, 1, 2)):
            with self.subTest(refused=refused):
                told = ask(begins(2, 2, 1), rests(0, 0), rests(1, 3), does(0), does(11), refused, state())
                self.assertEqual(told[5:], [-1, there])


class TheSets(unittest.TestCase):
    def test_in_the_order_in_which_they_were_told(self):
        line = [begins(2, 1, 0), rests(1, 7), rests(1, 0), rests(0, 5), rests(1, 3), rests(0, 2), rests(1, 1)]
        self.assertEqual(ask(*line, state())[-1], (0, [2, 1, 0], [2, 5, 2, 4, 7, 0, 3, 1]))

    def test_a_set_told_twice_stands_twice(self):
        told = ask(begins(2, 0, 0), rests(1, 2), rests(1, 0), rests(1, 2), state(), rests(1, 2), state())
        self.assertEqual(told[4:], [(0, [2, 0, 0], [0, 3, 2, 0, 2]), 4, (0, [2, 0, 0], [0, 4, 2, 0, 2, 2])])

    def test_pieces_in_between_that_rest_on_no_set(self):
        told = ask(begins(4, 0, 0), rests(1, 0), rests(3, 2), rests(3, 0), state())
        self.assertEqual(told[-1], (0, [4, 0, 0], [0, 1, 0, 0, 2, 2, 0]))

    def test_as_many_as_there_can_be(self):
        sets = [255, 0, 128, 7]
        line = [begins(6, 2, 2)] + [rests(piece, base) for piece in range(6) for base in sets]
        self.assertEqual(ask(*line, state())[-1], (0, [6, 2, 2], [4, *sets] * 6))

    def test_a_set_that_is_refused(self):
        line = [begins(2, 0, 0), *[rests(0, 0)] * 4]
        told = ask(*line, rests(0, 1), state(), rests(1, 4), state(), rests(2, 0), state(),
                   does(0), rests(1, 0), state())
        there = [2, 0, 0], [4, 0, 0, 0, 0, 0]
        self.assertEqual(told[5:], [-5, (0, *there), -1, (0, *there), -2, (0, *there), 1, -4, (1, *there)])


class WhatItIsNotChangedBy(unittest.TestCase):
    def test_calls_that_only_ask(self):
        asked = [carries(3), carries(99), falls(15), falls(99), fewest(), plan(), far(), needed(), spare(), state()]
        line = [begins(2, 2, 1), rests(0, 8), rests(0, 2), rests(1, 1), does(11), does(0)]
        for call in asked:
            with self.subTest(call=call):
                told = ask(*line, state(), call, state())
                self.assertEqual(told[6], (9, [2, 2, 1], [2, 8, 2, 1, 1]))
                self.assertEqual(told[8], told[6])


if __name__ == "__main__":
    unittest.main()
