"""Promise 4: does and undo."""

import unittest

from tests.calling import LARGEST, ask, begins, carries, does, rests, undo


class NoMove(unittest.TestCase):
    def test_every_number_up_to_thirty(self):
        for pieces in range(1, 7):
            for props in range(3):
                moves = [*range(pieces), *range(10, 10 + props), *range(20, 20 + props)]
                others = [number for number in range(31) if number not in moves]
                with self.subTest(pieces=pieces, props=props):
                    told = ask(begins(pieces, props, 0), *[does(number) for number in others])
                    self.assertEqual(told[1:], [-1] * len(others))
                    told = ask(begins(pieces, props, 0), *[does(number) for number in moves])
                    self.assertEqual(told[1:], [-6] * len(moves))

    def test_large_numbers(self):
        for number in (99, 100, 256, 2 ** 31, LARGEST - 1, LARGEST):
            with self.subTest(number=number):
                self.assertEqual(ask(begins(6, 2, 2), does(number)), [0, -1])

    def test_it_leaves_the_stage(self):
        told = ask(begins(2, 1, 1), rests(0, 0), rests(1, 0), does(0), does(2), does(11), does(21), does(1))
        self.assertEqual(told[3:], [1, -1, -1, -1, 3])


class Lays(unittest.TestCase):
    def test_the_stage_is_told_after_each_move(self):
        line = [begins(6, 0, 0)] + [rests(piece, 0) for piece in range(6)]
        told = ask(*line, *[does(piece) for piece in (3, 0, 5, 1, 4, 2)])
        self.assertEqual(told[7:], [8, 9, 41, 43, 59, 63])

    def test_a_piece_that_is_there_already(self):
        told = ask(begins(2, 0, 0), rests(0, 0), rests(1, 1), does(0), does(0), does(1), does(0), does(1))
        self.assertEqual(told[3:], [1, -6, 3, -6, -6])

    def test_a_piece_that_would_not_rest(self):
        told = ask(begins(2, 0, 0), rests(0, 0), rests(1, 1), does(1), does(0), does(1))
        self.assertEqual(told[3:], [-6, 1, 3])

    def test_a_piece_that_rests_on_no_set(self):
        self.assertEqual(ask(begins(2, 1, 1), rests(0, 0), does(0), does(10), does(1))[2:], [1, 5, -6])

    def test_pieces_that_carry_one_another_cannot_begin(self):
        self.assertEqual(ask(begins(2, 0, 0), rests(0, 2), rests(1, 1), does(0), does(1), carries(3))[3:], [-6, -6, 1])

    def test_a_piece_that_carries_itself(self):
        self.assertEqual(ask(begins(1, 0, 0), rests(0, 1), does(0)), [0, 1, 1])

    def test_piece_and_prop_are_different_things(self):
        told = ask(begins(1, 1, 1), rests(0, 2), does(0), does(10), does(0), does(10))
        self.assertEqual(told[2:], [-6, 2, 3, -6])


class Puts(unittest.TestCase):
    def test_behind_the_pieces(self):
        for pieces in range(1, 7):
            first, second = 2 ** pieces, 2 ** (pieces + 1)
            with self.subTest(pieces=pieces):
                told = ask(begins(pieces, 2, 2), does(10), does(11), undo(), does(11), does(10))
                self.assertEqual(told[1:], [first, first + second, 0, second, first + second])

    def test_a_prop_that_is_there_already(self):
        self.assertEqual(ask(begins(1, 2, 2), does(10), does(10), does(11), does(11)), [0, 2, -6, 6, -6])

    def test_none_at_once(self):
        self.assertEqual(ask(begins(1, 2, 0), does(10), does(11)), [0, -6, -6])
        self.assertEqual(ask(begins(1, 1, 0), does(10)), [0, -6])

    def test_as_many_as_may_stand_at_once(self):
        told = ask(begins(1, 2, 1), does(10), does(11), does(20), does(11), does(10), does(21), does(10))
        self.assertEqual(told[1:], [2, -6, 0, 4, -6, 0, 2])

    def test_pieces_do_not_count_as_props(self):
        line = [begins(3, 1, 1)] + [rests(piece, 0) for piece in range(3)]
        self.assertEqual(ask(*line, does(0), does(1), does(2), does(10))[4:], [1, 3, 7, 15])


class Takes(unittest.TestCase):
    def test_a_prop_that_is_there(self):
        self.assertEqual(ask(begins(1, 2, 2), does(10), does(11), does(20), does(21)), [0, 2, 6, 4, 0])

    def test_a_prop_that_is_not_there(self):
        self.assertEqual(ask(begins(1, 2, 2), does(20), does(21), does(10), does(21)), [0, -6, -6, 2, -6])
        self.assertEqual(ask(begins(1, 2, 2), does(11), does(20), does(21), does(21)), [0, 4, -6, 0, -6])

    def test_a_prop_that_is_needed(self):
        told = ask(begins(1, 1, 1), rests(0, 2), does(10), does(0), does(20), does(0), does(10))
        self.assertEqual(told[2:], [2, 3, -6, -6, -6])

    def test_a_prop_that_is_needed_no_more(self):
        # An arch: 0 leans on 1 or on the prop, 1 leans on 0.
        told = ask(begins(2, 1, 1), rests(0, 2), rests(0, 4), rests(1, 1),
                   does(0), does(10), does(0), does(20), does(1), does(20), does(20))
        self.assertEqual(told[4:], [-6, 4, 5, -6, 7, 3, -6])

    def test_a_prop_on_which_something_leans_by_way_of_another(self):
        # 0 and 1 carry one another, but only while the prop holds 1.
        told = ask(begins(2, 2, 2), rests(0, 2), rests(0, 4), rests(1, 1 + 8),
                   does(10), does(0), does(11), does(1), does(21), does(20), does(21))
        self.assertEqual(told[4:], [4, 5, 13, 15, -6, 11, -6])


class RefusedMoves(unittest.TestCase):
    def test_all_is_as_it_was(self):
        line = [begins(3, 2, 1), rests(0, 0), rests(1, 1 + 8), does(0), does(10), does(1)]
        refused = [does(0), does(1), does(2), does(10), does(11), does(20), does(21)]
        for move in refused:
            with self.subTest(move=move):
                told = ask(*line, move, carries(11), rests(0, 0), undo(), does(0), does(11), does(1), does(21))
                self.assertEqual(told[3:], [1, 9, 11, -6, 1, -4, 0, 1, 17, -6, 1])


class Undo(unittest.TestCase):
    def test_without_anything_there(self):
        self.assertEqual(ask(undo(), undo()), [0, 0])

    def test_it_empties_the_stage(self):
        line = [begins(2, 2, 2), rests(0, 0), rests(1, 1), does(0), does(1), does(10), does(11), undo()]
        self.assertEqual(ask(*line, does(1), does(20), does(21), does(11))[7:], [0, -6, -6, -6, 8])
        self.assertEqual(ask(*line, does(0), does(1), does(10))[7:], [0, 1, 3, 7])

    def test_the_design_stays(self):
        told = ask(begins(2, 2, 1), rests(0, 0), rests(1, 1), does(0), undo(),
                   carries(3), carries(16), rests(1, 2), does(10), does(11), does(2))
        self.assertEqual(told[3:], [1, 0, 1, -1, 2, 4, -6, -1])

    def test_the_set_can_be_told_then(self):
        self.assertEqual(ask(begins(1, 1, 1), does(10), rests(0, 0), undo(), rests(0, 0))[1:], [2, -4, 0, 1])


if __name__ == "__main__":
    unittest.main()
