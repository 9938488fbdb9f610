"""Promise 5: fewest and plan."""

import unittest

from tests.calling import ask, begins, does, fewest, plan, rests, undo

GROUND = [begins(3, 0, 0), rests(0, 0), rests(1, 0), rests(2, 0)]

# 0 leans on the prop or on 1, 1 leans on 0.
ARCH = [begins(2, 1, 1), rests(0, 4), rests(0, 2), rests(1, 1)]

# Two arches one behind the other: 2 and 3 stand on 1, but need a prop of their own till 3 is there.
LONG = [rests(0, 16), rests(0, 2), rests(1, 1), rests(2, 32 + 2), rests(2, 8), rests(3, 4)]


class WithPlan(unittest.TestCase):
    def assert_plan(self, line, moves):
        """The plan is these moves, and done one behind another they lead to the end."""
        asked = [call for move in moves for call in (does(move), fewest(), plan())]
        told = ask(*line, fewest(), plan(), *asked)[len(line):]
        self.assertEqual(told[:2], [len(moves), (len(moves), moves)])
        for done in range(len(moves)):
            left = moves[done + 1:]
            with self.subTest(line=line, done=done):
                stage, *after = told[2 + 3 * done:5 + 3 * done]
                self.assertGreaterEqual(stage, 0)
                self.assertEqual(after, [len(left), (len(left), left)])
        if moves:
            self.assertEqual(told[-3], 2 ** line[0][1] - 1)


class AtTheEnd(WithPlan):
    def test_no_moves(self):
        for pieces in range(1, 7):
            line = [begins(pieces, 2, 2)] + [rests(piece, 0) for piece in range(pieces)]
            line += [does(piece) for piece in range(pieces)]
            with self.subTest(pieces=pieces):
                self.assertEqual(ask(*line, fewest(), plan())[-2:], [0, (0, [])])

    def test_with_a_prop_it_is_not_the_end(self):
        told = ask(begins(1, 2, 2), rests(0, 0), does(0), does(11), fewest(), plan(), does(10), fewest(), plan())
        self.assertEqual(told[4:], [1, (1, [21]), 7, 2, (2, [20, 21])])

    def test_after_undo_it_is_not_the_end(self):
        told = ask(*ARCH, does(10), does(0), does(1), does(20), fewest(), undo(), fewest(), plan())
        self.assertEqual(told[7:], [3, 0, 0, 4, (4, [10, 0, 1, 20])])


class NoPlan(unittest.TestCase):
    def assert_none(self, *line):
        with self.subTest(line=line):
            self.assertEqual(ask(*line, fewest(), plan(), fewest(), plan())[-4:], [-6] * 4)

    def test_a_piece_that_rests_on_no_set(self):
        for pieces in range(1, 7):
            self.assert_none(begins(pieces, 2, 2))
            self.assert_none(begins(pieces, 2, 2), *[rests(piece, 0) for piece in range(pieces - 1)])

    def test_without_begins(self):
        self.assertEqual(ask(fewest(), plan(), rests(0, 0), fewest(), plan()), [-6, -6, 1, 1, (1, [0])])

    def test_the_end_rests_on_props(self):
        self.assert_none(begins(1, 1, 1), rests(0, 2))
        self.assert_none(begins(1, 1, 1), rests(0, 2), does(10), does(0))
        self.assert_none(begins(2, 2, 2), rests(0, 0), rests(1, 1 + 8))

    def test_no_moves_lead_to_an_end_that_carries(self):
        self.assert_none(begins(2, 2, 2), rests(0, 2), rests(1, 1))
        self.assert_none(begins(4, 2, 2), rests(0, 0), rests(1, 4), rests(2, 8), rests(3, 2))

    def test_too_few_props_at_once(self):
        self.assert_none(begins(2, 1, 0), *ARCH[1:])
        self.assert_none(begins(2, 2, 0), *ARCH[1:])
        both = [rests(0, 4 + 8), rests(0, 2), rests(1, 1)]
        self.assert_none(begins(2, 2, 0), *both)
        self.assert_none(begins(2, 2, 1), *both)
        self.assertEqual(ask(begins(2, 2, 2), *both, fewest(), plan())[4:], [6, (6, [10, 11, 0, 1, 20, 21])])

    def test_none_from_the_stage_that_is_there(self):
        # With 0 on prop 0 the prop must stay, so 1 can't lean on prop 1.
        line = [begins(3, 2, 1), rests(0, 8), rests(0, 2), rests(1, 16), rests(1, 5), rests(2, 2)]
        told = ask(*line, plan(), does(10), does(0), fewest(), plan(), undo(), fewest(), does(11), does(1), plan())
        self.assertEqual(told[6:], [(5, [11, 1, 0, 2, 21]), 8, 9, -6, -6, 0, 5, 16, 18, (3, [0, 2, 21])])


class Plans(WithPlan):
    def test_each_piece_on_the_one_before(self):
        for pieces in range(1, 7):
            line = [begins(pieces, 0, 0), rests(0, 0)]
            line += [rests(piece, 2 ** (piece - 1)) for piece in range(1, pieces)]
            self.assert_plan(line, list(range(pieces)))

    def test_each_piece_on_the_one_behind(self):
        for pieces in range(1, 7):
            line = [begins(pieces, 2, 2), rests(pieces - 1, 0)]
            line += [rests(piece, 2 ** (piece + 1)) for piece in range(pieces - 1)]
            self.assert_plan(line, list(range(pieces))[::-1])

    def test_a_prop_is_put_and_taken_away_again(self):
        self.assert_plan(ARCH, [10, 0, 1, 20])

    def test_no_prop_where_none_is_needed(self):
        self.assert_plan([*ARCH, rests(1, 0)], [1, 0])

    def test_the_second_prop(self):
        self.assert_plan([begins(2, 2, 1), rests(0, 8), rests(0, 2), rests(1, 1)], [11, 0, 1, 21])

    def test_one_prop_behind_the_other(self):
        self.assert_plan([begins(4, 2, 1), *LONG], [10, 0, 1, 20, 11, 2, 3, 21])

    def test_both_props_at_once(self):
        self.assert_plan([begins(4, 2, 2), *LONG], [10, 0, 1, 11, 2, 3, 20, 21])

    def test_a_prop_that_is_put_twice(self):
        # Three arches one behind another, the last of them on the prop of the first.
        line = [begins(6, 2, 1), rests(0, 64), rests(0, 2), rests(1, 1), rests(2, 128 + 2), rests(2, 8), rests(3, 4),
                rests(4, 64 + 8), rests(4, 32), rests(5, 16)]
        self.assert_plan(line, [10, 0, 1, 20, 11, 2, 3, 21, 10, 4, 5, 20])

    def test_the_largest_design(self):
        line = [begins(6, 2, 2)] + [rests(piece, 64 + 128) for piece in range(6)]
        line += [rests(piece, 2 ** ((piece + 1) % 6)) for piece in range(6)]
        self.assert_plan(line, [10, 11, 0, 1, 2, 3, 4, 5, 20, 21])

    def test_a_piece_that_carries_itself(self):
        self.assert_plan([begins(1, 1, 1), rests(0, 1)], [0])

    def test_from_a_stage_that_is_not_empty(self):
        self.assert_plan([*ARCH, does(10)], [0, 1, 20])
        self.assert_plan([*ARCH, does(10), does(0), does(1)], [20])
        self.assert_plan([*GROUND, does(1)], [0, 2])

    def test_a_prop_in_the_way_is_taken_first(self):
        line = [begins(2, 2, 1), rests(0, 4), rests(0, 2), rests(1, 1)]
        self.assert_plan([*line, does(11)], [21, 10, 0, 1, 20])
        self.assert_plan([begins(2, 2, 2), *line[1:], does(11)], [10, 0, 1, 20, 21])

    def test_after_undo(self):
        self.assert_plan([*ARCH, does(10), does(0), undo()], [10, 0, 1, 20])
        self.assert_plan([*GROUND, does(2), does(0), undo()], [0, 1, 2])


class TheLeastOfSeveral(WithPlan):
    def test_pieces_that_may_come_in_any_order(self):
        self.assert_plan(GROUND, [0, 1, 2])
        self.assert_plan([begins(6, 2, 2)] + [rests(piece, 0) for piece in range(6)], [0, 1, 2, 3, 4, 5])

    def test_as_early_as_can_be(self):
        self.assert_plan([begins(3, 0, 0), rests(0, 4), rests(1, 0), rests(2, 0)], [1, 2, 0])
        self.assert_plan([begins(4, 0, 0), rests(0, 8), rests(1, 0), rests(2, 0), rests(3, 0)], [1, 2, 3, 0])

    def test_the_first_move_counts_most(self):
        # The least number last, or the least moves in sum, would be another plan.
        self.assert_plan([begins(4, 0, 0), rests(0, 0), rests(1, 8), rests(2, 0), rests(3, 0)], [0, 2, 3, 1])

    def test_pieces_ahead_of_props(self):
        self.assert_plan([begins(3, 1, 1), rests(0, 8), rests(0, 2), rests(1, 1), rests(2, 0)], [2, 10, 0, 1, 20])

    def test_pieces_ahead_of_taking_props_away(self):
        self.assert_plan([begins(2, 1, 1), rests(0, 0), rests(1, 0), does(10)], [0, 1, 20])
        self.assert_plan([begins(3, 1, 1), rests(0, 8), rests(0, 2), rests(1, 1), rests(2, 0), does(10)],
                         [0, 1, 2, 20])

    def test_the_first_prop_ahead_of_the_second(self):
        either = [rests(0, 8), rests(0, 4), rests(0, 2), rests(1, 1)]
        self.assert_plan([begins(2, 2, 1), *either], [10, 0, 1, 20])
        self.assert_plan([begins(2, 2, 2), *either], [10, 0, 1, 20])
        self.assert_plan([begins(2, 2, 1), *either, does(11)], [0, 1, 21])

    def test_the_order_of_the_sets_means_nothing(self):
        self.assert_plan([begins(2, 1, 1), rests(0, 2), rests(0, 4), rests(1, 1)], [10, 0, 1, 20])


class WhatARefusalLeaves(unittest.TestCase):
    def test_the_plan_is_the_same(self):
        refused = [begins(0, 0, 0), begins(7, 2, 2), begins(2, 3, 1), begins(2, 1, 2), rests(0, 8), rests(2, 0),
                   rests(1, 0), does(1), does(10), does(11), does(2), does(30)]
        for call in refused:
            with self.subTest(call=call):
                told = ask(*ARCH, does(10), call, fewest(), plan())
                self.assertLess(told[5], 0)
                self.assertEqual(told[6:], [3, (3, [0, 1, 20])])

    def test_where_there_is_none(self):
        told = ask(begins(1, 1, 1), fewest(), plan(), rests(0, 4), plan(), rests(0, 0), plan(), rests(1, 0), plan())
        self.assertEqual(told[1:], [-6, -6, -1, -6, 1, (1, [0]), -2, (1, [0])])


if __name__ == "__main__":
    unittest.main()
