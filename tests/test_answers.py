"""The interface: how the calls are handed in and what comes back."""

import inspect
import unittest

from bridgestages import bridge
from bridgestages.bridge import answers

LINE = [0, 2, 1, 1, 1, 0, 4, 1, 0, 2, 1, 1, 1, 4, 0, 4, 10, 4, 0, 4, 1, 4, 20, 2, 3, 3, 6, 5]
TOLD = [1, 0, 1, 1, 1, 2, 1, 1, 1, -6, 1, 4, 1, 5, 1, 7, 1, 3, 1, 1, 1, 4, 1, 0]


def refuse(*given, **named):
    raise AssertionError("what is handed in is changed")


class Unchanging(list):
    """A list that tells of every try to change it, also of one that's set right again."""

    append = clear = extend = insert = pop = remove = reverse = sort = refuse
    __setitem__ = __delitem__ = __iadd__ = __imul__ = refuse


class Interface(unittest.TestCase):
    def test_a_line_of_all_calls(self):
        self.assertEqual(answers(list(LINE)), TOLD)

    def test_a_single_call(self):
        self.assertEqual(answers([5]), [1, 0])
        self.assertEqual(answers([2, 0]), [1, 1])
        self.assertEqual(answers([0, 7, 2, 2]), [1, -1])

    def test_eighty_calls(self):
        self.assertEqual(answers([0, 1, 1, 1] + [4, 10, 4, 20] * 39 + [5]), [1, 0] + [1, 2, 1, 0] * 39 + [1, 0])

    def test_the_largest_numbers(self):
        most = 4294967295
        self.assertEqual(
            answers([0, most, most, most, 1, most, most, 1, most, 0, 1, 0, most, 2, most, 3, most, 4, most, 5]),
            [1, -1, 1, -1, 1, -2, 1, -1, 1, -1, 1, -1, 1, -1, 1, 0],
        )

    def test_it_answers_a_list_of_whole_numbers(self):
        told = answers(list(LINE))
        self.assertIs(type(told), list)
        self.assertEqual({type(number) for number in told}, {int})

    def test_how_it_is_written(self):
        self.assertTrue(inspect.isfunction(bridge.answers))
        self.assertEqual(bridge.answers.__module__, "bridgestages.bridge")
        self.assertEqual(str(inspect.signature(bridge.answers)), "(calls)")


class HandedIn(unittest.TestCase):
    def test_it_is_as_it_was(self):
        line = list(LINE)
        answers(line)
        self.assertEqual(line, LINE)

    def test_it_is_not_changed_for_a_while_either(self):
        self.assertEqual(answers(Unchanging(LINE)), TOLD)

    def test_what_comes_back_is_another_list(self):
        line = [5]
        self.assertIsNot(answers(line), line)


class OneBehindAnother(unittest.TestCase):
    def test_the_same_again(self):
        first = answers(list(LINE))
        second = answers(list(LINE))
        self.assertEqual(first, TOLD)
        self.assertEqual(second, TOLD)
        self.assertIsNot(first, second)

    def test_the_design_is_forgotten(self):
        answers([0, 6, 2, 2, 1, 0, 0])
        self.assertEqual(answers([2, 2]), [1, -1])
        self.assertEqual(answers([4, 10]), [1, -1])
        self.assertEqual(answers([1, 1, 0]), [1, -2])

    def test_the_sets_are_forgotten(self):
        self.assertEqual(answers([1, 0, 0] * 4), [1, 1, 1, 2, 1, 3, 1, 4])
        self.assertEqual(answers([2, 1, 1, 0, 0]), [1, 0, 1, 1])

    def test_the_stage_is_forgotten(self):
        self.assertEqual(answers([1, 0, 0, 4, 0]), [1, 1, 1, 1])
        self.assertEqual(answers([1, 0, 0, 4, 0]), [1, 1, 1, 1])

    def test_what_came_back_may_be_changed(self):
        answers(list(LINE)).clear()
        self.assertEqual(answers(list(LINE)), TOLD)


if __name__ == "__main__":
    unittest.main()
