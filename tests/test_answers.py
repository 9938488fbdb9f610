"""The interface: how the calls are handed in and what comes back."""

import inspect
import unittest

from bridgestages import bridge
from bridgestages.bridge import answers

# An arch: 0 leans on the prop or on 1, 1 leans on 0.
LINE = [0, 2, 1, 1, 1, 0, 4, 1, 0, 2, 1, 1, 1, 6, 7, 8, 9, 10, 11,
        4, 0, 4, 10, 6, 7, 11, 4, 0, 8, 4, 1, 4, 20, 7, 2, 3, 3, 6, 5]
TOLD = [1, 0, 1, 1, 1, 2, 1, 1, 1, 4, 6, 4, 4, 10, 0, 1, 20, 4, 2, 2, 3, 5, 1, 1, 2, 0, 0,
        11, 0, 3, 2, 1, 1, 5, 2, 4, 2, 1, 1,
        1, -6, 1, 4, 1, 3, 5, 3, 3, 0, 1, 20, 11, 4, 3, 2, 1, 1, 5, 2, 4, 2, 1, 1, 1, 5, 4, 2, 2, 3, 3,
        1, 7, 1, 3, 2, 0, 0, 1, 1, 1, 4, 1, 0]


def refuse(*given, **named):
    raise AssertionError("what is handed in is changed")


class Unchanging(list):
    """A list that tells of every try to change it, also of one that's set right again."""

    append = clear = extend = insert = pop = remove = reverse = sort = refuse
    __setitem__ = __delitem__ = __iadd__ = __imul__ = refuse


class Interface(unittest.TestCase):
    def test_a_line_of_all_calls(self):
        self.assertEqual(answers(list(LINE)), TOLD)

    def test_a_single_call(self):
        self.assertEqual(answers([5]), [1, 0])
        self.assertEqual(answers([2, 0]), [1, 1])
        self.assertEqual(answers([0, 7, 2, 2]), [1, -1])

    def test_eighty_calls(self):
        self.assertEqual(answers([0, 1, 1, 1] + [4, 10, 4, 20] * 39 + [5]), [1, 0] + [1, 2, 1, 0] * 39 + [1, 0])

    def test_a_list_behind_the_number_that_is_answered_first(self):
        # Of two pieces on the ground piece 0 is there.
        line = [0, 2, 2, 1, 1, 0, 0, 1, 1, 0, 1, 1, 1, 4, 0]
        told = [1, 0, 1, 1, 1, 1, 1, 2, 1, 1]
        self.assertEqual(answers(line + [6]), told + [1, 1])
        self.assertEqual(answers(line + [7]), told + [3, 1, 1, 1])
        self.assertEqual(answers(line + [8]), told + [4, 2, 2, 3, 6])
        self.assertEqual(answers(line + [9]), told + [1, 0])
        self.assertEqual(answers(line + [10]), told + [4, 2, 2, 0, 1])
        self.assertEqual(answers(line + [11]), told + [11, 1, 3, 2, 2, 1, 5, 1, 0, 2, 0, 1])

    def test_an_empty_list_behind_its_length(self):
        line = [0, 2, 0, 0, 1, 0, 2, 1, 1, 1]
        self.assertEqual(answers(line + [10]), [1, 0, 1, 1, 1, 1, 2, 0, 0])
        self.assertEqual(answers([1, 0, 0, 4, 0, 7, 6]), [1, 1, 1, 1, 2, 0, 0, 1, 0])

    def test_a_refusal_alone(self):
        self.assertEqual(answers([6, 7, 9, 10]), [1, -6] * 4)

    def test_a_single_call_that_is_handed_nothing(self):
        self.assertEqual(answers([8]), [4, 0, 2, 0, 1])
        self.assertEqual(answers([11]), [7, 0, 3, 1, 0, 0, 1, 0])

    def test_eighty_of_any_call(self):
        # All pieces of the largest design on the ground, where state answers most.
        line = [0, 6, 2, 2] + [number for piece in range(6) for number in [1, piece, 0] * 4]
        begun = [1, 0] + [1, 1, 1, 2, 1, 3, 1, 4] * 6
        for call, told in (
            (5, [1, 0]), (6, [1, 6]), (7, [8, 6, 6, 0, 1, 2, 3, 4, 5]), (8, [4, 6, 2, 63, 256]), (9, [1, 0]),
            (10, [8, 6, 6, 0, 1, 2, 3, 4, 5]), (11, [36, 0, 3, 6, 2, 2, 30] + [4, 0, 0, 0, 0] * 6),
        ):
            with self.subTest(call=call):
                self.assertEqual(answers([call] * 80), answers([call]) * 80)
                self.assertEqual(answers(line + [call] * 55), begun + told * 55)

    def test_the_largest_numbers(self):
        most = 4294967295
        self.assertEqual(
            answers([0, most, most, most, 1, most, most, 1, most, 0, 1, 0, most, 2, most, 3, most, 4, most, 5]),
            [1, -1, 1, -1, 1, -2, 1, -1, 1, -1, 1, -1, 1, -1, 1, 0],
        )

    def test_it_answers_a_list_of_whole_numbers(self):
        told = answers(list(LINE))
        self.assertIs(type(told), list)
        self.assertEqual({type(number) for number in told}, {int})

    def test_how_it_is_written(self):
        self.assertTrue(inspect.isfunction(bridge.answers))
        self.assertEqual(bridge.answers.__module__, "bridgestages.bridge")
        self.assertEqual(str(inspect.signature(bridge.answers)), "(calls)")


class HandedIn(unittest.TestCase):
    def test_it_is_as_it_was(self):
        line = list(LINE)
        answers(line)
        self.assertEqual(line, LINE)

    def test_it_is_not_changed_for_a_while_either(self):
        self.assertEqual(answers(Unchanging(LINE)), TOLD)

    def test_what_comes_back_is_another_list(self):
        line = [5]
        self.assertIsNot(answers(line), line)


class OneBehindAnother(unittest.TestCase):
    def test_the_same_again(self):
        first = answers(list(LINE))
        second = answers(list(LINE))
        self.assertEqual(first, TOLD)
        self.assertEqual(second, TOLD)
        self.assertIsNot(first, second)

    def test_the_design_is_forgotten(self):
        answers([0, 6, 2, 2, 1, 0, 0])
        self.assertEqual(answers([2, 2]), [1, -1])
        self.assertEqual(answers([4, 10]), [1, -1])
        self.assertEqual(answers([1, 1, 0]), [1, -2])

    def test_the_sets_are_forgotten(self):
        self.assertEqual(answers([1, 0, 0] * 4), [1, 1, 1, 2, 1, 3, 1, 4])
        self.assertEqual(answers([2, 1, 1, 0, 0]), [1, 0, 1, 1])

    def test_what_was_asked_is_forgotten(self):
        asked = [6, 7, 8, 9, 10, 11]
        there = [0, 2, 1, 1, 1, 0, 4, 1, 0, 2, 1, 1, 1]
        other = [0, 2, 1, 1, 1, 0, 0, 1, 1, 0]
        first = answers(there + asked)
        second = answers(other + asked)
        self.assertEqual(first, TOLD[:len(first)])
        self.assertEqual(answers(asked), [1, -6, 1, -6, 4, 0, 2, 0, 1, 1, -6, 1, -6, 7, 0, 3, 1, 0, 0, 1, 0])
        self.assertEqual(answers(other + asked), second)
        self.assertEqual(answers(there + asked), first)

    def test_the_stage_is_forgotten(self):
        self.assertEqual(answers([1, 0, 0, 4, 0]), [1, 1, 1, 1])
        self.assertEqual(answers([1, 0, 0, 4, 0]), [1, 1, 1, 1])

    def test_what_came_back_may_be_changed(self):
        answers(list(LINE)).clear()
        self.assertEqual(answers(list(LINE)), TOLD)


if __name__ == "__main__":
    unittest.main()
