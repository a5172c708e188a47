"""begins, leaf, drop and ways."""

import unittest

from tests.lines import TOP, begins, drop, each, last, leaf, orders, ways

# From 1 to 2, from 2 to 3, from 3 to 4: each may lie as it's told alone.
ONE = leaf(1, 50, 50, 2)
TWO = leaf(2, 51, 51, 3)
THREE = leaf(3, 52, 52, 4)


class Begins(unittest.TestCase):
    def test_answers_0_on_a_new_heap(self):
        self.assertEqual(each(begins()), [[0]])

    def test_no_leaves_are_left(self):
        self.assertEqual(each(ONE, TWO, begins(), ways(0), drop(0), orders()), [[0], [1], [0], [-2], [-2], [1]])

    def test_numbers_start_again(self):
        self.assertEqual(each(ONE, TWO, begins(), THREE, ways(0)), [[0], [1], [0], [0], [1, 0, 3, 4]])

    def test_a_full_heap_takes_six_again(self):
        told = each(*[ONE] * 6, begins(), *[ONE] * 7)
        self.assertEqual(told[6:], [[0], [0], [1], [2], [3], [4], [5], [-5]])


class Leaf(unittest.TestCase):
    def test_numbers_in_turn(self):
        self.assertEqual(each(*[ONE, TWO, THREE] * 2), [[0], [1], [2], [3], [4], [5]])

    def test_a_first_word_of_0(self):
        self.assertEqual(each(leaf(0, 1, 1, 1)), [[-1]])
        self.assertEqual(each(leaf(1, 1, 0, 1)), [[-1]])
        self.assertEqual(each(leaf(0, 0, 0, 0)), [[-1]])

    def test_a_word_above_9999_in_each_place(self):
        for place in range(4):
            for word in (10000, 10001, 65536, TOP):
                words = [1, 1, 1, 1]
                words[place] = word
                with self.subTest(words=words):
                    self.assertEqual(each(leaf(*words), ways(0)), [[-1], [-2]])

    def test_9999_in_each_place(self):
        for place in range(4):
            words = [1, 1, 1, 1]
            words[place] = 9999
            with self.subTest(words=words):
                self.assertEqual(each(leaf(*words)), [[0]])
        self.assertEqual(each(leaf(9999, 9999, 9999, 9999), ways(0)), [[0], [2, 0, 9999, 9999, 1, 9999, 9999]])

    def test_a_catchword_of_0(self):
        self.assertEqual(each(leaf(1, 0, 1, 1), leaf(1, 1, 1, 0), leaf(1, 0, 1, 0)), [[0], [1], [2]])

    def test_a_leaf_that_may_lie_in_no_way_is_taken(self):
        self.assertEqual(each(leaf(1, 2, 3, 4)), [[0]])

    def test_the_same_leaf_twice(self):
        self.assertEqual(each(ONE, ONE), [[0], [1]])

    def test_a_seventh_leaf(self):
        self.assertEqual(each(*[ONE] * 8)[5:], [[5], [-5], [-5]])

    def test_a_refused_word_beside_a_full_heap(self):
        full = [ONE] * 6
        self.assertEqual(last(*full, leaf(0, 1, 1, 1)), [-1])
        self.assertEqual(last(*full, leaf(1, 1, 0, 1)), [-1])
        self.assertEqual(last(*full, leaf(1, 1, 1, 10000)), [-1])

    def test_a_refused_word_changes_nothing(self):
        told = each(ONE, leaf(0, 1, 1, 1), leaf(1, 10000, 1, 1), TWO, ways(0), ways(1), ways(2), orders())
        self.assertEqual(told, [[0], [-1], [-1], [1], [1, 0, 1, 2], [1, 0, 2, 3], [-2], [1, 0, 0, 1, 0]])

    def test_a_refused_seventh_changes_nothing(self):
        six = [ONE, TWO, THREE] * 2
        asked = [ways(number) for number in range(7)] + [orders(), drop(5)]
        self.assertEqual(each(*six, THREE, *asked)[7:], each(*six, *asked)[6:])

    def test_a_place_that_is_free_again(self):
        self.assertEqual(each(*[ONE] * 6, drop(2), TWO, TWO)[6:], [[5], [5], [-5]])


class Drop(unittest.TestCase):
    def test_how_many_are_left(self):
        self.assertEqual(each(ONE, TWO, THREE, drop(1), drop(1), drop(0))[3:], [[2], [1], [0]])

    def test_those_behind_get_lesser_numbers(self):
        told = each(ONE, TWO, THREE, drop(0), ways(0), ways(1), ways(2))
        self.assertEqual(told[3:], [[2], [1, 0, 2, 3], [1, 0, 3, 4], [-2]])

    def test_those_ahead_keep_theirs(self):
        told = each(ONE, TWO, THREE, drop(1), ways(0), ways(1))
        self.assertEqual(told[3:], [[2], [1, 0, 1, 2], [1, 0, 3, 4]])

    def test_the_last_one(self):
        told = each(ONE, TWO, THREE, drop(2), ways(0), ways(1), ways(2))
        self.assertEqual(told[3:], [[2], [1, 0, 1, 2], [1, 0, 2, 3], [-2]])

    def test_the_next_leaf_comes_behind_those_left(self):
        told = each(ONE, TWO, drop(0), THREE, ways(0), ways(1))
        self.assertEqual(told[2:], [[1], [1], [1, 0, 2, 3], [1, 0, 3, 4]])

    def test_no_such_leaf(self):
        self.assertEqual(each(drop(0)), [[-2]])
        for number in (2, 3, 6, 7, TOP - 1, TOP):
            with self.subTest(number=number):
                told = each(ONE, TWO, drop(number), ways(0), ways(1), drop(1))
                self.assertEqual(told[2:], [[-2], [1, 0, 1, 2], [1, 0, 2, 3], [1]])


class Ways(unittest.TestCase):
    def test_none(self):
        self.assertEqual(last(leaf(1, 2, 3, 4), ways(0)), [0])

    def test_as_it_is_told(self):
        self.assertEqual(last(leaf(1, 2, 2, 3), ways(0)), [1, 0, 1, 3])

    def test_turned(self):
        self.assertEqual(last(leaf(2, 3, 1, 2), ways(0)), [1, 1, 1, 3])

    def test_both_as_it_is_told_first(self):
        self.assertEqual(last(leaf(8, 3, 3, 8), ways(0)), [2, 0, 8, 8, 1, 3, 3])

    def test_one_word_everywhere(self):
        self.assertEqual(last(leaf(5, 5, 5, 5), ways(0)), [2, 0, 5, 5, 1, 5, 5])

    def test_it_leads_to_0(self):
        self.assertEqual(last(leaf(1, 2, 2, 0), ways(0)), [1, 0, 1, 0])
        self.assertEqual(last(leaf(2, 0, 1, 2), ways(0)), [1, 1, 1, 0])

    def test_two_catchwords_of_0(self):
        self.assertEqual(last(leaf(1, 0, 2, 0), ways(0)), [0])

    def test_like_first_words_or_like_catchwords_alone(self):
        self.assertEqual(last(leaf(1, 2, 1, 2), ways(0)), [0])
        self.assertEqual(last(leaf(1, 1, 2, 2), ways(0)), [0])

    def test_each_leaf_has_its_own(self):
        told = each(ONE, leaf(1, 2, 3, 4), leaf(8, 3, 3, 8), ways(2), ways(1), ways(0))
        self.assertEqual(told[3:], [[2, 0, 8, 8, 1, 3, 3], [0], [1, 0, 1, 2]])

    def test_no_such_leaf(self):
        self.assertEqual(each(ways(0)), [[-2]])
        for number in (1, 2, 5, 6, TOP):
            with self.subTest(number=number):
                self.assertEqual(each(ONE, ways(number), ways(0)), [[0], [-2], [1, 0, 1, 2]])

    def test_asking_changes_nothing(self):
        self.assertEqual(each(ONE, ways(0), ways(0), TWO, drop(0)), [[0], [1, 0, 1, 2], [1, 0, 1, 2], [1], [1]])


if __name__ == "__main__":
    unittest.main()
