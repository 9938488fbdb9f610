"""Promise 1: begins."""

import unittest

from tests.calling import LARGEST, ask, begins, carries, does, falls, rests

# Two pieces and two props, one at once: piece 0 on the ground, piece 1 on piece 0 and prop 1.
# What's there in the end are piece 0 and prop 1: stage 9.
STARTED = [begins(2, 2, 1), rests(0, 0), rests(1, 9), does(0), does(11)]


class Accepted(unittest.TestCase):
    def test_every_allowed_count(self):
        for pieces in range(1, 7):
            for props in range(3):
                for at_once in range(props + 1):
                    with self.subTest(pieces=pieces, props=props, at_once=at_once):
                        self.assertEqual(ask(begins(pieces, props, at_once)), [0])

    def test_there_are_as_many_things_as_told(self):
        for pieces in range(1, 7):
            for props in range(3):
                things = 2 ** (pieces + props)
                with self.subTest(pieces=pieces, props=props):
                    told = ask(begins(pieces, props, 0), falls(things - 1), falls(things))
                    self.assertEqual(told, [0, things - 2 ** pieces, -1])

    def test_at_once_is_what_was_told(self):
        puts = [does(10), does(11)]
        self.assertEqual(ask(begins(1, 2, 0), *puts), [0, -6, -6])
        self.assertEqual(ask(begins(1, 2, 1), *puts), [0, 2, -6])
        self.assertEqual(ask(begins(1, 2, 2), *puts), [0, 2, 6])


class Refused(unittest.TestCase):
    def assert_refused(self, pieces, props, at_once):
        with self.subTest(pieces=pieces, props=props, at_once=at_once):
            self.assertEqual(ask(begins(pieces, props, at_once)), [-1])

    def test_pieces(self):
        for pieces in (0, 7, 8, 100, LARGEST):
            self.assert_refused(pieces, 0, 0)
            self.assert_refused(pieces, 2, 2)

    def test_props(self):
        for props in (3, 4, LARGEST):
            for at_once in (0, 1, 2, 3):
                self.assert_refused(1, props, at_once)
                self.assert_refused(6, props, at_once)

    def test_more_at_once_than_props(self):
        for props in range(3):
            for at_once in (props + 1, props + 2, LARGEST):
                self.assert_refused(1, props, at_once)
                self.assert_refused(6, props, at_once)

    def test_all_at_once(self):
        self.assert_refused(0, 3, 4)
        self.assert_refused(LARGEST, LARGEST, LARGEST)


class WhatARefusalLeaves(unittest.TestCase):
    REFUSED = [begins(0, 0, 0), begins(7, 0, 0), begins(3, 3, 0), begins(1, 0, 1), begins(2, 1, 2)]

    def after_each_refusal(self, *calls):
        for refused in self.REFUSED:
            told = ask(*STARTED, refused, *calls)
            self.assertEqual(told[:6], [0, 1, 1, 1, 9, -1])
            yield refused, told[6:]

    def test_the_stage_is_kept(self):
        for refused, told in self.after_each_refusal(does(1), does(21), rests(0, 0)):
            with self.subTest(refused=refused):
                self.assertEqual(told, [11, -6, -4])

    def test_the_sets_are_kept(self):
        for refused, told in self.after_each_refusal(carries(1), carries(11), carries(3), falls(7)):
            with self.subTest(refused=refused):
                self.assertEqual(told, [1, 1, 0, 5])

    def test_how_many_there_are_is_kept(self):
        for refused, told in self.after_each_refusal(carries(15), carries(16), does(2), does(10), does(12)):
            with self.subTest(refused=refused):
                self.assertEqual(told, [1, -1, -1, -6, -1])


class ANewDesign(unittest.TestCase):
    def test_no_piece_rests_on_any_set(self):
        told = ask(*STARTED, begins(2, 2, 1), carries(1), carries(15), falls(15), does(0), rests(0, 0), rests(1, 0))
        self.assertEqual(told[5:], [0, 0, 0, 12, -6, 1, 1])

    def test_four_sets_may_be_told_again(self):
        line = [begins(1, 0, 0)] + [rests(0, 0)] * 4
        self.assertEqual(ask(*line, *line), [0, 1, 2, 3, 4] * 2)

    def test_the_stage_is_empty(self):
        told = ask(*STARTED, begins(2, 2, 1), does(21), does(10), does(20))
        self.assertEqual(told[5:], [0, -6, 4, 0])

    def test_it_has_its_own_counts(self):
        told = ask(*STARTED, begins(1, 1, 1), carries(2), carries(4), does(1), does(11), does(10))
        self.assertEqual(told[5:], [0, 1, -1, -1, -1, 2])
        told = ask(*STARTED, begins(6, 2, 2), carries(192), carries(256), does(5), does(10), does(11))
        self.assertEqual(told[5:], [0, 1, -1, -6, 64, 192])


class WithoutBegins(unittest.TestCase):
    def test_one_piece_that_rests_on_no_set(self):
        self.assertEqual(ask(carries(1), falls(1), does(0)), [0, 0, -6])
        self.assertEqual(ask(carries(0), falls(0)), [1, 0])
        self.assertEqual(ask(rests(0, 0), carries(1), falls(1), does(0)), [1, 1, 1, 1])

    def test_there_is_no_other_piece(self):
        self.assertEqual(ask(does(1), carries(2), falls(2), rests(1, 0)), [-1, -1, -1, -2])

    def test_there_are_no_props(self):
        self.assertEqual(ask(does(10), does(20), carries(2)), [-1, -1, -1])

    def test_a_refused_begins_leaves_it(self):
        told = ask(begins(0, 0, 0), begins(7, 2, 1), rests(1, 0), rests(0, 1), carries(1), carries(2), does(10))
        self.assertEqual(told, [-1, -1, -2, 1, 1, -1, -1])


if __name__ == "__main__":
    unittest.main()
