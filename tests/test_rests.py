"""Promise 2: rests."""

import unittest

from tests.calling import LARGEST, ask, begins, carries, does, falls, rests, undo


class Accepted(unittest.TestCase):
    def test_answers_on_how_many_sets_the_piece_rests(self):
        told = ask(begins(2, 1, 1), rests(0, 0), rests(0, 2), rests(0, 4), rests(0, 6))
        self.assertEqual(told, [0, 1, 2, 3, 4])

    def test_each_piece_has_its_own(self):
        told = ask(begins(3, 0, 0), rests(0, 0), rests(2, 1), rests(0, 1), rests(1, 4), rests(2, 2), rests(0, 2))
        self.assertEqual(told, [0, 1, 1, 2, 1, 2, 3])

    def test_a_set_told_again_counts_again(self):
        told = ask(begins(1, 0, 0), rests(0, 0), rests(0, 0), rests(0, 0), rests(0, 0), rests(0, 0))
        self.assertEqual(told, [0, 1, 2, 3, 4, -5])

    def test_the_set_of_all_things_is_one(self):
        for pieces in range(1, 7):
            for props in range(3):
                everything = 2 ** (pieces + props) - 1
                with self.subTest(pieces=pieces, props=props):
                    told = ask(begins(pieces, props, props), rests(pieces - 1, everything), falls(everything))
                    left = everything if pieces == 1 else everything - (2 ** pieces - 1)
                    self.assertEqual(told, [0, 1, left])

    def test_all_four_sets_count(self):
        told = ask(
            begins(4, 2, 0), rests(0, 2), rests(0, 4), rests(0, 8), rests(0, 16), rests(0, 32),
            rests(1, 0), rests(2, 0), rests(3, 0),
            carries(1 + 2), carries(1 + 4), carries(1 + 8), carries(1 + 16), carries(1 + 32), carries(1),
        )
        self.assertEqual(told[1:6], [1, 2, 3, 4, -5])
        self.assertEqual(told[9:], [1, 1, 1, 1, 0, 0])

    def test_it_rests_where_it_was_told(self):
        told = ask(begins(3, 0, 0), rests(1, 0), carries(1), carries(2), carries(4))
        self.assertEqual(told, [0, 1, 0, 1, 0])


class RefusedNumber(unittest.TestCase):
    def test_the_number_of_things(self):
        for pieces in range(1, 7):
            for props in range(3):
                first_wrong = 2 ** (pieces + props)
                with self.subTest(pieces=pieces, props=props):
                    told = ask(
                        begins(pieces, props, 0), rests(0, first_wrong), rests(0, first_wrong + 1),
                        rests(0, 2 * first_wrong), rests(0, LARGEST), rests(0, first_wrong - 1),
                    )
                    self.assertEqual(told, [0, -1, -1, -1, -1, 1])

    def test_before_the_piece(self):
        self.assertEqual(ask(begins(2, 1, 1), rests(2, 8), rests(LARGEST, LARGEST)), [0, -1, -1])

    def test_before_the_stage(self):
        self.assertEqual(ask(begins(2, 1, 1), does(10), rests(0, 8), rests(2, 8)), [0, 4, -1, -1])

    def test_before_the_fourth_set(self):
        told = ask(begins(1, 1, 1), *[rests(0, 0)] * 4, rests(0, 4), does(0), rests(0, 4))
        self.assertEqual(told[5:], [-1, 1, -1])


class RefusedPiece(unittest.TestCase):
    def test_no_such_piece(self):
        for pieces in range(1, 7):
            with self.subTest(pieces=pieces):
                told = ask(
                    begins(pieces, 2, 2), rests(pieces, 0), rests(pieces + 1, 0), rests(LARGEST, 1),
                    rests(pieces - 1, 0),
                )
                self.assertEqual(told, [0, -2, -2, -2, 1])

    def test_before_the_stage(self):
        self.assertEqual(ask(begins(2, 1, 1), does(10), rests(2, 0), rests(3, 7)), [0, 4, -2, -2])

    def test_before_the_fourth_set(self):
        told = ask(begins(1, 1, 1), *[rests(0, 0)] * 4, rests(1, 0), does(0), rests(1, 0))
        self.assertEqual(told[5:], [-2, 1, -2])


class RefusedStage(unittest.TestCase):
    def test_a_piece_is_there(self):
        self.assertEqual(ask(begins(2, 0, 0), rests(0, 0), does(0), rests(0, 0), rests(1, 1)), [0, 1, 1, -4, -4])

    def test_a_prop_is_there(self):
        self.assertEqual(ask(begins(1, 2, 1), does(11), rests(0, 0)), [0, 4, -4])

    def test_before_the_fourth_set(self):
        told = ask(begins(2, 0, 0), *[rests(0, 0)] * 4, does(0), rests(0, 0), rests(1, 0))
        self.assertEqual(told[5:], [1, -4, -4])

    def test_not_once_the_stage_is_empty_again(self):
        told = ask(begins(1, 1, 1), rests(0, 0), does(10), does(20), rests(0, 1), does(0), undo(), rests(0, 2))
        self.assertEqual(told, [0, 1, 2, 0, 2, 1, 0, 3])

    def test_a_move_that_was_refused_leaves_it_empty(self):
        self.assertEqual(ask(begins(1, 1, 0), does(0), does(10), rests(0, 0)), [0, -6, -6, 1])


class RefusedFifthSet(unittest.TestCase):
    def test_it_rests_on_four(self):
        told = ask(begins(3, 0, 0), rests(1, 0), rests(1, 1), rests(1, 4), rests(1, 5), rests(1, 2), rests(1, 0))
        self.assertEqual(told, [0, 1, 2, 3, 4, -5, -5])

    def test_another_piece_does_not(self):
        told = ask(begins(2, 0, 0), *[rests(0, 0)] * 4, rests(1, 0), rests(0, 0), rests(1, 1))
        self.assertEqual(told[5:], [1, -5, 2])

    def test_also_after_undo(self):
        told = ask(begins(1, 0, 0), *[rests(0, 0)] * 4, does(0), undo(), rests(0, 0))
        self.assertEqual(told[5:], [1, 0, -5])


class WhatARefusalLeaves(unittest.TestCase):
    def test_a_number_that_is_no_set(self):
        told = ask(begins(2, 0, 0), rests(0, 4), carries(1), rests(0, 2), carries(1), carries(3))
        self.assertEqual(told, [0, -1, 0, 1, 0, 0])

    def test_no_such_piece(self):
        told = ask(begins(2, 0, 0), rests(2, 0), falls(3), rests(0, 0), rests(1, 0))
        self.assertEqual(told, [0, -2, 0, 1, 1])

    def test_the_stage_is_not_empty(self):
        told = ask(begins(2, 1, 1), does(10), rests(0, 0), carries(1), does(0), does(20), rests(0, 2))
        self.assertEqual(told, [0, 4, -4, 0, -6, 0, 1])

    def test_a_fifth_set(self):
        told = ask(begins(2, 0, 0), *[rests(0, 2)] * 4, rests(0, 0), carries(1), rests(1, 0), carries(1), carries(3))
        self.assertEqual(told[5:], [-5, 0, 1, 0, 1])


if __name__ == "__main__":
    unittest.main()
