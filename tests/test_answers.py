"""looseleaves.desk.answers as it is told in the interface."""

import unittest

from looseleaves.desk import answers
from tests.lines import TOP, begins, drop, leaf, line, orders, taken_apart, ways


class Unchanging(list):
    """A list that can't be changed, not for a while either."""

    def refuse(self, *given, **named):
        raise AssertionError("what was handed in is changed")

    __setitem__ = __delitem__ = __iadd__ = __imul__ = refuse
    append = extend = insert = pop = remove = clear = sort = reverse = refuse


LINE = line(
    leaf(3, 9, 9, 1), leaf(0, 9, 9, 1), leaf(5, 5, 5, 5), leaf(1, 2, 3, 4), ways(0), ways(1), ways(2), ways(3),
    orders(), drop(2), drop(TOP), orders(), drop(1), orders(), begins(), orders(),
)
TOLD = [
    1, 0, 1, -1, 1, 1, 1, 2, 4, 1, 0, 3, 1, 7, 2, 0, 5, 5, 1, 5, 5, 1, 0, 1, -2,
    1, 0, 1, 2, 1, -2, 1, 0, 1, 1, 3, 1, 0, 0, 1, 0, 1, 1,
]


class Answers(unittest.TestCase):
    def test_each_call_alone(self):
        self.assertEqual(answers([0]), [1, 0])
        self.assertEqual(answers([1, 1, 2, 2, 3]), [1, 0])
        self.assertEqual(answers([2, 0]), [1, -2])
        self.assertEqual(answers([3, 0]), [1, -2])
        self.assertEqual(answers([4]), [1, 1])

    def test_several_calls_with_the_counts_before_each_answer(self):
        self.assertEqual(answers([1, 1, 2, 2, 3, 3, 0, 4, 2, 0, 0]), [1, 0, 4, 1, 0, 1, 3, 3, 1, 0, 0, 1, 0, 1, 0])
        self.assertEqual(answers(list(LINE)), TOLD)

    def test_words_and_numbers_are_not_taken_for_calls(self):
        self.assertEqual(answers([1, 4, 4, 4, 4, 3, 0, 2, 0, 4]), [1, 0, 7, 2, 0, 4, 4, 1, 4, 4, 1, 0, 1, 1])
        self.assertEqual(answers([1, 0, 0, 0, 0, 2, 4, 3, 1, 0]), [1, -1, 1, -2, 1, -2, 1, 0])

    def test_it_gives_back_a_list_of_whole_numbers(self):
        told = answers(list(LINE))
        self.assertIs(type(told), list)
        self.assertEqual({type(number) for number in told}, {int})

    def test_the_list_handed_in_is_left_as_it_was(self):
        given = list(LINE)
        told = answers(given)
        self.assertEqual(given, LINE)
        self.assertIsNot(told, given)

    def test_the_list_handed_in_is_not_changed_for_a_while(self):
        self.assertEqual(answers(Unchanging(LINE)), TOLD)

    def test_a_second_time_is_as_the_first(self):
        first = answers(list(LINE))
        kept = list(first)
        answers(line(*[leaf(1, 1, 1, 1)] * 6))
        self.assertEqual(answers([4]), [1, 1])
        self.assertEqual(answers(line(ways(0), drop(0), leaf(1, 1, 1, 1))), [1, -2, 1, -2, 1, 0])
        first.clear()
        self.assertEqual(answers(list(LINE)), kept)

    def test_sixty_calls_with_twelve_of_orders(self):
        six = [leaf(7, 7, 7, 7)] * 6
        asked = [ways(5)] * 42
        told = taken_apart(answers(line(*six, *asked, *[orders()] * 12)))
        self.assertEqual(len(told), 60)
        self.assertEqual(told[6:48], [[2, 0, 7, 7, 1, 7, 7]] * 42)
        self.assertEqual(told[48:], [[46080, 0, 0, 1, 0, 2, 0, 3, 0, 4, 0, 5, 0]] * 12)


if __name__ == "__main__":
    unittest.main()
