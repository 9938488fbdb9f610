"""Promise 6: far."""

import unittest

from tests.calling import ask, begins, carries, does, far, rests, undo


def answered(*line):
    """What far answers behind the line: how many pieces, the stage, how many stages."""
    pieces, row = ask(*line, far())[-1]
    assert len(row) == 2, row
    return pieces, row[0], row[1]


class NoMove(unittest.TestCase):
    def test_without_begins(self):
        self.assertEqual(ask(far()), [(0, [0, 1])])

    def test_from_the_empty_stage(self):
        for pieces in range(1, 7):
            for props in range(3):
                self.assertEqual(answered(begins(pieces, props, 0)), (0, 0, 1))

    def test_from_a_stage_that_is_not_empty(self):
        self.assertEqual(answered(begins(2, 0, 0), rests(0, 0), does(0)), (1, 1, 1))
        self.assertEqual(answered(begins(3, 0, 0), rests(1, 0), rests(2, 2), does(1), does(2)), (2, 6, 1))

    def test_from_the_end(self):
        for pieces in range(1, 7):
            line = [begins(pieces, 2, 0)] + [rests(piece, 0) for piece in range(pieces)]
            line += [does(piece) for piece in range(pieces)]
            self.assertEqual(answered(*line), (pieces, 2 ** pieces - 1, 1))


class HowManyStages(unittest.TestCase):
    def test_pieces_on_the_ground(self):
        for pieces in range(1, 7):
            for props, at_once, sets in ((0, 0, 1), (1, 0, 1), (1, 1, 2), (2, 0, 1), (2, 1, 3), (2, 2, 4)):
                line = [begins(pieces, props, at_once)] + [rests(piece, 0) for piece in range(pieces)]
                with self.subTest(pieces=pieces, props=props, at_once=at_once):
                    self.assertEqual(answered(*line), (pieces, 2 ** pieces - 1, sets * 2 ** pieces))

    def test_each_piece_on_the_one_before(self):
        for pieces in range(1, 7):
            line = [begins(pieces, 0, 0), rests(0, 0)]
            line += [rests(piece, 2 ** (piece - 1)) for piece in range(1, pieces)]
            self.assertEqual(answered(*line), (pieces, 2 ** pieces - 1, pieces + 1))

    def test_only_props(self):
        self.assertEqual(answered(begins(6, 1, 1)), (0, 0, 2))
        self.assertEqual(answered(begins(6, 2, 1)), (0, 0, 3))
        self.assertEqual(answered(begins(6, 2, 2)), (0, 0, 4))

    def test_that_there_is_one_of_them(self):
        self.assertEqual(answered(begins(1, 1, 1), does(10)), (0, 0, 2))
        self.assertEqual(answered(begins(1, 0, 0), rests(0, 0)), (1, 1, 2))

    def test_a_stage_that_carries_but_to_which_no_moves_lead(self):
        line = [begins(3, 0, 0), rests(0, 2), rests(1, 1), rests(2, 0)]
        self.assertEqual(ask(*line, carries(3), carries(7), far())[4:], [1, 1, (1, [4, 2])])

    def test_a_stage_behind_one_that_does_not_carry(self):
        # 0 carries only together with 1, and 1 only on 0 or on prop 0, of which there may be none.
        line = [begins(2, 1, 0), rests(0, 2), rests(1, 1), rests(1, 4)]
        self.assertEqual(answered(*line), (0, 0, 1))
        self.assertEqual(answered(begins(2, 1, 1), *line[1:]), (2, 3, 5))

    def test_fewer_from_further_on(self):
        line = [begins(3, 1, 1), rests(0, 0), rests(1, 0), rests(2, 0)]
        told = ask(*line, far(), does(1), far(), does(10), far(), does(0), far(), does(2), far(), does(20), far())
        self.assertEqual(told[4:], [(3, [7, 16]), 2, (3, [7, 8]), 10, (3, [7, 8]), 11, (3, [7, 4]), 15, (3, [7, 2]),
                                    7, (3, [7, 2])])

    def test_after_undo(self):
        told = ask(begins(2, 0, 0), rests(0, 0), rests(1, 0), does(1), far(), undo(), far())
        self.assertEqual(told[4:], [(2, [3, 2]), 0, (2, [3, 4])])


class Furthest(unittest.TestCase):
    # 0 stands on prop 1 alone, 1 on prop 0 alone.
    CROSSED = [rests(0, 8), rests(1, 4)]

    def test_all_pieces(self):
        arch = [begins(2, 1, 1), rests(0, 4), rests(0, 2), rests(1, 1)]
        self.assertEqual(answered(*arch), (2, 3, 5))
        self.assertEqual(answered(*arch, does(10), does(0)), (2, 3, 3))

    def test_where_there_is_no_plan(self):
        self.assertEqual(answered(begins(3, 0, 0), rests(0, 0), rests(2, 1)), (2, 5, 3))
        self.assertEqual(answered(begins(1, 1, 1), rests(0, 2)), (1, 3, 3))
        self.assertEqual(answered(begins(2, 2, 2), *self.CROSSED), (2, 15, 9))

    def test_of_as_many_pieces_the_least_number(self):
        self.assertEqual(answered(begins(2, 2, 1), *self.CROSSED), (1, 6, 5))
        self.assertEqual(answered(begins(2, 2, 1), rests(0, 4), rests(1, 8)), (1, 5, 5))

    def test_the_least_number_where_it_is_reached_last(self):
        self.assertEqual(answered(begins(2, 2, 1), *self.CROSSED, does(11)), (1, 6, 5))
        self.assertEqual(answered(begins(2, 2, 1), rests(0, 4), rests(1, 8), does(11)), (1, 5, 5))

    def test_the_least_number_is_without_the_props_that_may_go(self):
        self.assertEqual(answered(begins(2, 2, 2), rests(0, 0), does(10), does(11)), (1, 1, 8))
        self.assertEqual(answered(begins(1, 2, 2), rests(0, 4), does(10)), (1, 5, 6))

    def test_props_do_not_count_as_pieces(self):
        # 1 rests on both props and 0 on nothing at all, so that there are three things with one piece.
        self.assertEqual(answered(begins(2, 2, 2), rests(1, 12)), (1, 14, 5))
        self.assertEqual(answered(begins(2, 2, 2)), (0, 0, 4))

    def test_more_pieces_count_ahead_of_a_lesser_number(self):
        # With 0 on prop 0 the prop stays and 1 doesn't come: 9. With 1 on prop 1 there's 2 besides: 22.
        line = [begins(3, 2, 1), rests(0, 8), rests(1, 16), rests(2, 2)]
        self.assertEqual(answered(*line), (2, 22, 6))
        self.assertEqual(answered(*line, does(10), does(0)), (1, 9, 1))

    def test_more_pieces_count_ahead_of_more_things(self):
        # 0 needs both props, at once only one may stand: 1 and 2 are left.
        line = [rests(0, 24), rests(1, 0), rests(2, 2)]
        self.assertEqual(answered(begins(3, 2, 1), *line), (2, 6, 9))
        self.assertEqual(answered(begins(3, 2, 2), *line), (3, 31, 15))


class WhatARefusalLeaves(unittest.TestCase):
    def test_it_is_the_same(self):
        line = [begins(2, 1, 1), rests(0, 4), rests(0, 2), rests(1, 1), does(10)]
        refused = [begins(0, 0, 0), begins(2, 1, 2), rests(0, 8), rests(2, 0), rests(0, 0), does(1), does(10), does(9)]
        for call in refused:
            with self.subTest(call=call):
                told = ask(*line, call, far())
                self.assertLess(told[5], 0)
                self.assertEqual(told[6], (2, [3, 5]))


if __name__ == "__main__":
    unittest.main()
