"""looseleaves.desk.answers as it is told in the interface."""

import unittest

from looseleaves.desk import answers
from tests.lines import (
    NO_WAY, TOP, begins, behind, both, drop, each, from_word, leaf, least, line, orders, runs, simple, sure, taken_apart,
    turned, ways,
)


class Unchanging(list):
    """A list that can't be changed, not for a while either."""

    def refuse(self, *given, **named):
        raise AssertionError("what was handed in is changed")

    __setitem__ = __delitem__ = __iadd__ = __imul__ = refuse
    append = extend = insert = pop = remove = clear = sort = reverse = refuse


LINE = line(
    leaf(3, 9, 9, 1), leaf(0, 9, 9, 1), leaf(5, 5, 5, 5), leaf(1, 2, 3, 4), ways(0), ways(1), ways(2), ways(3),
    orders(), drop(2), drop(TOP), orders(), drop(1), orders(), begins(), orders(),
)
TOLD = [
    1, 0, 1, -1, 1, 1, 1, 2, 4, 1, 0, 3, 1, 7, 2, 0, 5, 5, 1, 5, 5, 1, 0, 1, -2,
    1, 0, 1, 2, 1, -2, 1, 0, 1, 1, 3, 1, 0, 0, 1, 0, 1, 1,
]
# All ten calls; the one order of the three leaves is 2 0 1.
ALL_TEN = line(
    begins(), simple(2, 3), turned(3, 4), simple(1, 2), ways(1), orders(), from_word(1), from_word(2), runs(), sure(),
    behind(2, 0), behind(0, 3), least(), drop(0), orders(), runs(), least(), both(8, 8), least(), NO_WAY, runs(),
)
TOLD_OF_ALL_TEN = [
    1, 0, 1, 0, 1, 1, 1, 2, 4, 1, 1, 3, 4, 7, 1, 2, 0, 0, 0, 1, 1, 7, 1, 2, 0, 0, 0, 1, 1, 1, 0,
    7, 0, 2, 0, 0, 0, 1, 1, 5, 2, 0, 1, 2, 0, 1, 1, 1, -2, 5, 1, 1, 2, 4, 1,
    1, 2, 1, 0, 5, 1, 0, 1, 1, 0, 8, 2, 2, 3, 2, 1, 1, 2, 1, 1, 2, 1, -4, 1, 3, 1, -6,
]
SIX = [both(7, 7)] * 6
IN_TURN = [0, 0, 1, 0, 2, 0, 3, 0, 4, 0, 5, 0]


class Answers(unittest.TestCase):
    def test_each_call_alone(self):
        self.assertEqual(answers([0]), [1, 0])
        self.assertEqual(answers([1, 1, 2, 2, 3]), [1, 0])
        self.assertEqual(answers([2, 0]), [1, -2])
        self.assertEqual(answers([3, 0]), [1, -2])
        self.assertEqual(answers([4]), [1, 1])
        self.assertEqual(answers([5, 0]), [1, 0])
        self.assertEqual(answers([6]), [1, 0])
        self.assertEqual(answers([7]), [1, 0])
        self.assertEqual(answers([8, 0, 0]), [1, -2])
        self.assertEqual(answers([9]), [2, 0, 0])

    def test_all_ten_calls_in_one_list(self):
        self.assertEqual(answers(list(ALL_TEN)), TOLD_OF_ALL_TEN)

    def test_several_calls_with_the_counts_before_each_answer(self):
        self.assertEqual(answers([1, 1, 2, 2, 3, 3, 0, 4, 2, 0, 0]), [1, 0, 4, 1, 0, 1, 3, 3, 1, 0, 0, 1, 0, 1, 0])
        self.assertEqual(answers(list(LINE)), TOLD)

    def test_words_and_numbers_are_not_taken_for_calls(self):
        self.assertEqual(answers([1, 4, 4, 4, 4, 3, 0, 2, 0, 4]), [1, 0, 7, 2, 0, 4, 4, 1, 4, 4, 1, 0, 1, 1])
        self.assertEqual(answers([1, 0, 0, 0, 0, 2, 4, 3, 1, 0]), [1, -1, 1, -2, 1, -2, 1, 0])
        self.assertEqual(answers([5, 9, 8, 6, 7, 5, 4, 8, 1, 2, 9]), [1, 0, 1, -2, 1, 0, 1, -2, 2, 0, 0])

    def test_it_gives_back_a_list_of_whole_numbers(self):
        for given in (LINE, ALL_TEN):
            told = answers(list(given))
            self.assertIs(type(told), list)
            self.assertEqual({type(number) for number in told}, {int})

    def test_the_list_handed_in_is_left_as_it_was(self):
        for calls in (LINE, ALL_TEN):
            given = list(calls)
            told = answers(given)
            self.assertEqual(given, calls)
            self.assertIsNot(told, given)

    def test_the_list_handed_in_is_not_changed_for_a_while(self):
        self.assertEqual(answers(Unchanging(LINE)), TOLD)
        self.assertEqual(answers(Unchanging(ALL_TEN)), TOLD_OF_ALL_TEN)

    def test_a_second_time_is_as_the_first(self):
        first = answers(list(LINE))
        kept = list(first)
        answers(line(*[leaf(1, 1, 1, 1)] * 6, orders(), runs(), sure()))
        self.assertEqual(answers([4]), [1, 1])
        self.assertEqual(answers(line(ways(0), drop(0), leaf(1, 1, 1, 1))), [1, -2, 1, -2, 1, 0])
        self.assertEqual(answers([5, 1, 6, 7, 8, 0, 1, 9]), [1, 0, 1, 0, 1, 0, 1, -2, 2, 0, 0])
        first.clear()
        self.assertEqual(answers(list(LINE)), kept)
        answers(list(ALL_TEN)).clear()
        self.assertEqual(answers(list(ALL_TEN)), TOLD_OF_ALL_TEN)

    def test_refusals_change_nothing(self):
        refused = [leaf(0, 1, 1, 1), drop(3), ways(3), behind(3, 0), behind(0, TOP), least()]
        leaves = [simple(2, 3), both(2, 2), turned(1, 2)]
        asked = [ways(0), ways(1), ways(2), orders(), from_word(1), runs(), sure(), behind(2, 1)]
        alone = each(*leaves, *asked)
        among = each(*leaves, *refused, *asked)
        self.assertEqual(among[3:9], [[-1], [-2], [-2], [-2], [-2], [-4]])
        self.assertEqual(among[9:], alone[3:])
        self.assertEqual(each(simple(1, 2), NO_WAY, runs(), ways(1), drop(1), runs())[2:], [[-6], [0], [1], [0, 0, 0]])

    def test_of_several_refusals_the_one_told_first(self):
        self.assertEqual(each(*SIX, leaf(0, 1, 1, 1), leaf(1, 1, 1, TOP), leaf(1, 1, 1, 1))[6:], [[-1], [-1], [-5]])

    def test_numbers_up_to_the_highest_in_each_call(self):
        told = each(leaf(TOP, TOP, TOP, TOP), drop(TOP), ways(TOP), from_word(TOP), behind(TOP, TOP))
        self.assertEqual(told, [[-1], [-2], [-2], [0], [-2]])

    def test_sixty_calls_with_twelve_of_orders(self):
        told = each(*SIX, *[ways(5)] * 42, *[orders()] * 12)
        self.assertEqual(len(told), 60)
        self.assertEqual(told[6:48], [[2, 0, 7, 7, 1, 7, 7]] * 42)
        self.assertEqual(told[48:], [[46080] + IN_TURN] * 12)

    def test_sixty_calls_with_twelve_that_walk_all_orders(self):
        asked = [orders(), from_word(7), from_word(8), runs(), sure(), behind(4, 3)]
        told = each(*SIX, *[least()] * 42, *asked, *asked)
        self.assertEqual(len(told), 60)
        self.assertEqual(told[6:48], [[-4]] * 42)
        expected = [[46080] + IN_TURN, [46080] + IN_TURN, [0], [0] + IN_TURN, [0], [7680]]
        self.assertEqual(told[48:], expected + expected)

    def test_sixty_calls_of_all_ten_kinds_mixed(self):
        once = [
            begins(), simple(2, 3), turned(3, 4), simple(1, 2), leaf(1, 1, 1, 10000), ways(2), least(), drop(1),
            simple(3, 9), least(), drop(6), ways(0), ways(1), ways(3), turned(9, 2),
        ]
        asked = [[orders(), from_word(1), runs()], [sure(), behind(1, 0), behind(1, 4)]]
        told = each(*once, *asked[0], *once, *asked[1], *once, *asked[0][::-1], least(), drop(3), *asked[1][::-1], drop(5))
        self.assertEqual(len(told), 60)
        first = [
            [0], [0], [1], [2], [-1], [1, 0, 1, 2], [1, 1, 2, 4, 1], [2], [2], [1, 1, 2, 4, 1], [-2], [1, 0, 2, 3],
            [1, 0, 1, 2], [-2], [3],
        ]
        order = [1, 0, 0, 0, 2, 0, 3, 1]
        self.assertEqual(told[:18], first + [[1] + order, [1] + order, [0] + order])
        self.assertEqual(told[18:36], first + [[3, 0, 2, 1, 0, 2, 3], [1], [-2]])
        self.assertEqual(told[36:54], first + [[0] + order, [1] + order, [1] + order])
        self.assertEqual(told[54:], [[1, 1, 2, 4, 1], [3], [-2], [1], [2, 0, 2, 1, 0], [-2]])


if __name__ == "__main__":
    unittest.main()
