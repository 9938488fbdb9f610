"""Promise 7: needed."""

import unittest

from tests.calling import ask, begins, does, fewest, needed, rests, state, undo

# 0 leans on prop 0 or on 1, 1 leans on 0.
ARCH = [rests(0, 4), rests(0, 2), rests(1, 1)]

# 0 leans on both props or on 1, 1 leans on 0.
ON_BOTH = [rests(0, 4 + 8), rests(0, 2), rests(1, 1)]


class NoneNeeded(unittest.TestCase):
    def test_on_the_ground(self):
        for pieces in range(1, 7):
            for props in range(3):
                for at_once in range(props + 1):
                    line = [begins(pieces, props, at_once)] + [rests(piece, 0) for piece in range(pieces)]
                    with self.subTest(pieces=pieces, props=props, at_once=at_once):
                        self.assertEqual(ask(*line, needed())[-1], 0)

    def test_where_a_plan_with_a_prop_is_no_shorter(self):
        self.assertEqual(ask(begins(2, 1, 1), rests(0, 4), rests(0, 0), rests(1, 1), needed())[-1], 0)

    def test_where_it_takes_another_order(self):
        # With the prop 0 comes first, without it 1 must.
        self.assertEqual(ask(begins(2, 1, 1), *ARCH, rests(1, 0), needed())[-1], 0)


class One(unittest.TestCase):
    def test_an_arch(self):
        for props, at_once in ((1, 0), (1, 1), (2, 0), (2, 1), (2, 2)):
            with self.subTest(props=props, at_once=at_once):
                self.assertEqual(ask(begins(2, props, at_once), *ARCH, needed())[-1], 1)

    def test_the_second_prop(self):
        for at_once in range(3):
            told = ask(begins(2, 2, at_once), rests(0, 8), rests(0, 2), rests(1, 1), needed())
            self.assertEqual(told[-1], 1)

    def test_one_at_once_though_the_plan_with_two_is_shorter(self):
        # Three arches one behind another, the last of them on the prop of the first.
        line = [rests(0, 64), rests(0, 2), rests(1, 1), rests(2, 128 + 2), rests(2, 8), rests(3, 4),
                rests(4, 64 + 8), rests(4, 32), rests(5, 16)]
        for at_once, moves in ((0, -6), (1, 12), (2, 10)):
            with self.subTest(at_once=at_once):
                self.assertEqual(ask(begins(6, 2, at_once), *line, needed(), fewest())[-2:], [1, moves])

    def test_two_props_that_stand_one_behind_the_other(self):
        # Two arches, the second upon the first, each with a prop of its own.
        line = [rests(0, 16), rests(0, 2), rests(1, 1), rests(2, 32 + 2), rests(2, 8), rests(3, 4)]
        for at_once, moves in ((0, -6), (1, 8), (2, 8)):
            with self.subTest(at_once=at_once):
                self.assertEqual(ask(begins(4, 2, at_once), *line, needed(), fewest())[-2:], [1, moves])


class Two(unittest.TestCase):
    def test_a_piece_on_both(self):
        for at_once in range(3):
            with self.subTest(at_once=at_once):
                self.assertEqual(ask(begins(2, 2, at_once), *ON_BOTH, needed())[-1], 2)

    def test_two_pieces_on_one_each(self):
        # 0 and 1 lean each on a prop till 2 stands on both.
        line = [rests(0, 8), rests(0, 4), rests(1, 16), rests(1, 4), rests(2, 3)]
        for at_once, moves in ((0, -6), (1, -6), (2, 7)):
            with self.subTest(at_once=at_once):
                self.assertEqual(ask(begins(3, 2, at_once), *line, needed(), fewest())[-2:], [2, moves])


class NoneWithAllOfThem(unittest.TestCase):
    def test_without_begins(self):
        self.assertEqual(ask(needed(), rests(0, 0), needed()), [-6, 1, 0])

    def test_the_end_does_not_carry(self):
        for pieces in range(1, 7):
            for props in range(3):
                told = ask(begins(pieces, props, props), needed(), rests(0, 0), needed())
                self.assertEqual(told, [0, -6, 1, 0 if pieces == 1 else -6])

    def test_the_end_rests_on_a_prop(self):
        self.assertEqual(ask(begins(1, 2, 2), rests(0, 2), rests(0, 4), needed())[-1], -6)

    def test_no_moves_lead_to_an_end_that_carries(self):
        for props in range(3):
            self.assertEqual(ask(begins(2, props, props), rests(0, 2), rests(1, 1), needed())[-1], -6)

    def test_no_further_than_the_props_that_there_are(self):
        # 2 and 3 carry one another, and neither prop is of use to them.
        line = [rests(0, 16 + 32), rests(0, 2), rests(1, 1), rests(2, 8), rests(3, 4)]
        for at_once in range(3):
            self.assertEqual(ask(begins(4, 2, at_once), *line, needed())[-1], -6)


class FromTheEmptyStage(unittest.TestCase):
    def test_wherever_the_stage_that_is_there_is(self):
        told = ask(begins(2, 1, 1), *ARCH, needed(), does(10), needed(), does(0), needed(), does(1), needed(),
                   does(20), needed(), fewest(), undo(), needed())
        self.assertEqual(told[4:], [1, 4, 1, 5, 1, 7, 1, 3, 1, 0, 0, 1])

    def test_with_both_there(self):
        told = ask(begins(2, 2, 2), *ON_BOTH, does(10), does(11), needed(), does(0), does(1), needed(), fewest())
        self.assertEqual(told[4:], [4, 12, 2, 13, 15, 2, 2])

    def test_where_there_is_no_plan_from_the_stage_that_is_there(self):
        # With 0 on prop 0 the prop must stay, so 1 can't lean on prop 1.
        line = [begins(3, 2, 1), rests(0, 8), rests(0, 2), rests(1, 16), rests(1, 5), rests(2, 2)]
        self.assertEqual(ask(*line, does(10), does(0), fewest(), needed())[-2:], [-6, 1])


class AllElseAsItIs(unittest.TestCase):
    def test_how_many_may_stand_at_once_is_as_it_was(self):
        told = ask(begins(2, 2, 0), *ON_BOTH, needed(), does(10), fewest(), state())
        self.assertEqual(told[4:], [2, -6, -6, (0, [2, 2, 0], [2, 12, 2, 1, 1])])
        told = ask(begins(2, 2, 2), *ARCH, needed(), does(10), does(11), state())
        self.assertEqual(told[4:], [1, 4, 12, (12, [2, 2, 2], [2, 4, 2, 1, 1])])

    def test_a_set_told_behind_it(self):
        told = ask(begins(2, 2, 1), *ON_BOTH, needed(), rests(0, 8), needed(), rests(0, 0), needed())
        self.assertEqual(told[4:], [2, 3, 1, 4, 0])

    def test_what_a_refusal_leaves(self):
        for call in (begins(0, 0, 0), begins(2, 1, 2), rests(0, 16), rests(2, 0), does(0), does(10), does(12)):
            with self.subTest(call=call):
                told = ask(begins(2, 2, 0), *ON_BOTH, call, needed())
                self.assertLess(told[4], 0)
                self.assertEqual(told[5], 2)


if __name__ == "__main__":
    unittest.main()
