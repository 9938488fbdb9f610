"""Promise 3: carries and falls."""

import unittest

from tests.calling import LARGEST, ask, begins, carries, does, falls, rests


class NoStage(unittest.TestCase):
    def test_the_number_of_things(self):
        for pieces in range(1, 7):
            for props in range(3):
                first_wrong = 2 ** (pieces + props)
                with self.subTest(pieces=pieces, props=props):
                    told = ask(
                        begins(pieces, props, 0),
                        carries(first_wrong), carries(first_wrong + 1), carries(2 * first_wrong), carries(LARGEST),
                        falls(first_wrong), falls(first_wrong + 1), falls(2 * first_wrong), falls(LARGEST),
                        carries(first_wrong - 1), falls(first_wrong - 1),
                    )
                    self.assertEqual(told, [0] + [-1] * 8 + [0, first_wrong - 2 ** pieces])

    def test_also_while_a_stage_is_there(self):
        told = ask(begins(1, 1, 1), does(10), carries(4), falls(4), does(20))
        self.assertEqual(told, [0, 2, -1, -1, 0])


class Carries(unittest.TestCase):
    def test_the_empty_stage(self):
        self.assertEqual(ask(carries(0), begins(6, 2, 2), carries(0)), [1, 0, 1])

    def test_a_piece_on_the_ground(self):
        self.assertEqual(ask(begins(2, 1, 1), rests(0, 0), carries(1), carries(2), carries(5)), [0, 1, 1, 0, 1])

    def test_a_piece_that_rests_on_no_set(self):
        told = ask(begins(3, 1, 1), rests(0, 0), rests(1, 1), *[carries(stage) for stage in range(16)])
        carrying = [0, 1, 3, 8, 9, 11]
        self.assertEqual(told[3:], [1 if stage in carrying else 0 for stage in range(16)])

    def test_all_of_a_set_is_needed(self):
        told = ask(begins(3, 0, 0), rests(0, 0), rests(1, 0), rests(2, 3), *[carries(stage) for stage in range(8)])
        self.assertEqual(told[4:], [1, 1, 1, 1, 0, 0, 0, 1])

    def test_one_of_several_sets_is_enough(self):
        line = [begins(4, 0, 0), rests(0, 0), rests(1, 0), rests(2, 0), rests(3, 1), rests(3, 6)]
        told = ask(*line, *[carries(8 + others) for others in range(8)])
        self.assertEqual(told[6:], [0, 1, 0, 1, 0, 1, 1, 1])

    def test_the_order_of_the_sets_means_nothing(self):
        line = [begins(4, 0, 0), rests(0, 0), rests(1, 0), rests(2, 0), rests(3, 6), rests(3, 1)]
        told = ask(*line, *[carries(8 + others) for others in range(8)])
        self.assertEqual(told[6:], [0, 1, 0, 1, 0, 1, 1, 1])

    def test_sets_are_not_added_up(self):
        told = ask(begins(3, 2, 2), rests(0, 8 + 2), rests(0, 16 + 4), carries(1 + 8), carries(1 + 16), carries(1 + 24))
        self.assertEqual(told[3:], [0, 0, 0])

    def test_pieces_that_carry_one_another(self):
        told = ask(begins(2, 0, 0), rests(0, 2), rests(1, 1), *[carries(stage) for stage in range(4)])
        self.assertEqual(told[3:], [1, 0, 0, 1])

    def test_three_pieces_that_carry_one_another(self):
        told = ask(begins(3, 0, 0), rests(0, 2), rests(1, 4), rests(2, 1), *[carries(stage) for stage in range(8)])
        self.assertEqual(told[4:], [1, 0, 0, 0, 0, 0, 0, 1])

    def test_a_piece_that_carries_itself(self):
        self.assertEqual(ask(begins(2, 0, 0), rests(0, 1), carries(1), carries(2), does(0)), [0, 1, 1, 0, 1])

    def test_props_rest_by_themselves(self):
        self.assertEqual(ask(begins(1, 2, 0), carries(2), carries(4), carries(6), carries(7)), [0, 1, 1, 1, 0])

    def test_a_piece_on_a_prop(self):
        # Prop 0 of three pieces is thing 3, prop 1 thing 4.
        told = ask(begins(3, 2, 1), rests(0, 16), carries(1 + 16), carries(1 + 8), carries(1), carries(1 + 24))
        self.assertEqual(told[2:], [1, 0, 0, 1])

    def test_it_has_nothing_to_do_with_the_stage_that_is_there(self):
        line = [begins(2, 1, 1), rests(0, 4), rests(1, 1), does(10), does(0)]
        told = ask(*line, carries(1), carries(3), carries(2), carries(7), does(1))
        self.assertEqual(told[3:], [4, 5, 0, 0, 0, 1, 7])


class Falls(unittest.TestCase):
    def test_nothing_falls_where_it_carries(self):
        line = [begins(2, 1, 1), rests(0, 0), rests(1, 1)]
        told = ask(*line, falls(0), falls(1), falls(3), falls(4), falls(5), falls(7))
        self.assertEqual(told[3:], [0, 1, 3, 4, 5, 7])

    def test_only_what_does_not_rest(self):
        line = [begins(3, 0, 0), rests(0, 0), rests(1, 4), rests(2, 0)]
        self.assertEqual(ask(*line, falls(3), falls(2), falls(7), falls(6))[4:], [1, 0, 7, 6])

    def test_a_piece_that_rests_on_no_set(self):
        self.assertEqual(ask(begins(2, 0, 0), rests(1, 0), falls(1), falls(2), falls(3)), [0, 1, 0, 2, 2])

    def test_one_behind_another(self):
        rising = [begins(6, 0, 0), rests(0, 0)] + [rests(piece, 2 ** (piece - 1)) for piece in range(1, 6)]
        self.assertEqual(ask(*rising, falls(63), falls(62), falls(59), falls(47), falls(31))[7:], [63, 0, 3, 15, 31])
        sinking = [begins(6, 0, 0), rests(5, 0)] + [rests(piece, 2 ** (piece + 1)) for piece in range(5)]
        self.assertEqual(ask(*sinking, falls(63), falls(31), falls(55), falls(61), falls(62))[7:], [63, 0, 48, 60, 62])

    def test_in_an_order_that_neither_rises_nor_sinks(self):
        # 3 leans on 0, 1 on 3, 4 on 1, 2 on 4; 0 leans on the prop; 5 on the ground.
        line = [begins(6, 1, 1), rests(0, 64), rests(3, 1), rests(1, 8), rests(4, 2), rests(2, 16), rests(5, 0)]
        self.assertEqual(ask(*line, falls(127), falls(63), falls(126), falls(125))[7:], [127, 32, 96, 64 + 32 + 8 + 1])

    def test_another_set_holds_when_one_has_gone(self):
        # 2 rests on 1 or on prop 0; 1 rests on 0, which rests on no set.
        line = [begins(3, 1, 1), rests(1, 1), rests(2, 2), rests(2, 8)]
        self.assertEqual(ask(*line, falls(15), falls(7), falls(14))[4:], [12, 0, 12])

    def test_pieces_that_carry_one_another_stay(self):
        line = [begins(3, 0, 0), rests(0, 2), rests(1, 1), rests(2, 1)]
        self.assertEqual(ask(*line, falls(3), falls(7), falls(1), falls(6), falls(5))[4:], [3, 7, 0, 0, 0])

    def test_props_stay(self):
        self.assertEqual(ask(begins(2, 2, 0), falls(15), falls(7), falls(11), falls(12)), [0, 12, 4, 8, 12])
        self.assertEqual(ask(begins(6, 2, 1), falls(255)), [0, 192])

    def test_the_stage_that_is_there_stays(self):
        line = [begins(2, 1, 1), rests(0, 4), rests(1, 1), does(10), does(0)]
        self.assertEqual(ask(*line, falls(3), falls(2), does(1))[5:], [0, 0, 7])


if __name__ == "__main__":
    unittest.main()
