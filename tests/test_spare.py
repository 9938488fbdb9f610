"""Promise 8: spare."""

import unittest

from tests.calling import ask, begins, carries, does, rests, spare, undo


class Spare(unittest.TestCase):
    def assert_spare(self, line, pieces):
        """These pieces are spare; and that they are is what carries says of the end without each of them."""
        end = 2 ** line[0][1] - 1
        told = ask(*line, spare(), *[carries(end - 2 ** piece) for piece in range(line[0][1])])[len(line):]
        with self.subTest(line=line):
            self.assertEqual(told[0], (len(pieces), pieces))
            self.assertEqual([piece for piece, carried in enumerate(told[1:]) if carried], pieces)

    def test_no_piece(self):
        self.assert_spare([begins(2, 0, 0), rests(0, 2), rests(1, 1)], [])
        self.assert_spare([begins(6, 2, 2)] + [rests(piece, 2 ** ((piece + 1) % 6)) for piece in range(6)], [])
        self.assert_spare([begins(3, 1, 1), rests(0, 6), rests(1, 5), rests(2, 3)], [])

    def test_one_piece(self):
        for pieces in range(1, 7):
            rising = [rests(piece, 2 ** (piece - 1)) for piece in range(1, pieces)]
            self.assert_spare([begins(pieces, 0, 0), rests(0, 0), *rising], [pieces - 1])
            sinking = [rests(piece, 2 ** (piece + 1)) for piece in range(pieces - 1)]
            self.assert_spare([begins(pieces, 2, 2), rests(pieces - 1, 0), *sinking], [0])

    def test_several_pieces(self):
        self.assert_spare([begins(4, 1, 1), rests(0, 0), rests(1, 0), rests(2, 2), rests(3, 2)], [0, 2, 3])
        self.assert_spare([begins(6, 0, 0), rests(0, 2), rests(1, 1), *[rests(piece, 0) for piece in range(2, 6)]],
                          [2, 3, 4, 5])

    def test_all_pieces(self):
        for pieces in range(1, 7):
            self.assert_spare([begins(pieces, 2, 1)] + [rests(piece, 0) for piece in range(pieces)],
                              list(range(pieces)))

    def test_each_by_itself_though_not_all_together(self):
        # 2 needs one of 0 and 1, either will do.
        self.assert_spare([begins(3, 0, 0), rests(0, 0), rests(1, 0), rests(2, 1), rests(2, 2)], [0, 1, 2])

    def test_one_set_that_is_left_is_enough(self):
        self.assert_spare([begins(4, 0, 0), rests(0, 0), rests(1, 0), rests(2, 0), rests(3, 1 + 2), rests(3, 2 + 4)],
                          [0, 2, 3])

    def test_a_piece_that_carries_itself(self):
        self.assert_spare([begins(1, 0, 0), rests(0, 1)], [0])
        self.assert_spare([begins(2, 0, 0), rests(0, 1), rests(1, 3)], [1])

    def test_sets_with_props_do_not_count(self):
        self.assert_spare([begins(3, 1, 1), rests(0, 0), rests(1, 1), rests(1, 8), rests(2, 0)], [1, 2])

    def test_all_of_it_falls_with_the_piece_that_others_need_by_way_of_others(self):
        self.assert_spare([begins(4, 0, 0), rests(0, 4), rests(1, 8), rests(2, 0), rests(3, 1)], [1])


class TheEndDoesNotCarry(unittest.TestCase):
    def test_without_begins(self):
        self.assertEqual(ask(spare(), rests(0, 0), spare()), [-6, 1, (1, [0])])

    def test_a_piece_that_rests_on_no_set(self):
        for pieces in range(1, 7):
            for missing in range(pieces):
                line = [rests(piece, 0) for piece in range(pieces) if piece != missing]
                with self.subTest(pieces=pieces, missing=missing):
                    told = ask(begins(pieces, 2, 2), *line, spare(), rests(missing, 0), spare())
                    self.assertEqual(told[pieces:], [-6, 1, (pieces, list(range(pieces)))])

    def test_the_end_rests_on_props(self):
        self.assertEqual(ask(begins(1, 1, 1), rests(0, 2), spare(), does(10), does(0), spare())[2:], [-6, 2, 3, -6])
        self.assertEqual(ask(begins(2, 2, 0), rests(0, 0), rests(1, 1 + 4), spare())[3:], [-6])


class TheEndAlone(unittest.TestCase):
    def test_wherever_the_stage_that_is_there_is(self):
        line = [begins(3, 1, 1), rests(0, 0), rests(1, 1), rests(2, 1)]
        told = ask(*line, spare(), does(10), spare(), does(0), spare(), does(1), does(2), spare(), does(20), spare(),
                   undo(), spare())
        self.assertEqual([answer for answer in told if type(answer) is tuple], [(2, [1, 2])] * 6)

    def test_whether_moves_lead_there_or_not(self):
        self.assertEqual(ask(begins(3, 0, 0), rests(0, 2), rests(1, 1), rests(2, 0), spare())[4:], [(1, [2])])

    def test_what_a_refusal_leaves(self):
        for call in (begins(0, 0, 0), begins(3, 1, 2), rests(0, 16), rests(3, 0), rests(2, 0), does(2), does(3)):
            with self.subTest(call=call):
                told = ask(begins(3, 1, 1), rests(0, 0), rests(1, 1), *[rests(2, 2)] * 4, call, spare())
                self.assertLess(told[7], 0)
                self.assertEqual(told[8], (1, [2]))


if __name__ == "__main__":
    unittest.main()
