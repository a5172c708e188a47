"""from, in the interface from_word."""

import unittest

from tests.lines import NO_WAY, TOP, begins, both, drop, each, from_word, last, orders, simple, turned
from tests.trying import heaps, rows_by_trying, told_of_from

# Three orders, each of which begins with another word.
RING = [simple(1, 2), simple(3, 1), turned(2, 3)]


class From(unittest.TestCase):
    def test_no_leaves(self):
        for word in (0, 1, 9999, TOP):
            with self.subTest(word=word):
                self.assertEqual(each(from_word(word)), [[0]])
        self.assertEqual(last(simple(1, 2), drop(0), from_word(1)), [0])
        self.assertEqual(last(simple(1, 2), begins(), from_word(1)), [0])

    def test_one_leaf(self):
        self.assertEqual(last(simple(1, 2), from_word(1)), [1, 0, 0])
        self.assertEqual(last(turned(1, 2), from_word(1)), [1, 0, 1])

    def test_a_word_that_no_order_begins_with(self):
        for word in (0, 2, 3, 9000, 9999, 10000, TOP - 1, TOP):
            with self.subTest(word=word):
                self.assertEqual(last(simple(2, 3), simple(1, 2), from_word(word)), [0])

    def test_0_is_no_first_word_even_if_leaves_lead_to_it(self):
        self.assertEqual(last(simple(1, 0), from_word(0)), [0])
        self.assertEqual(last(simple(2, 0), turned(1, 2), from_word(0)), [0])

    def test_some_of_the_orders_and_the_first_of_these(self):
        self.assertEqual(last(*RING, orders()), [3, 0, 0, 2, 1, 1, 0])
        self.assertEqual(last(*RING, from_word(1)), [1, 0, 0, 2, 1, 1, 0])
        self.assertEqual(last(*RING, from_word(3)), [1, 1, 0, 0, 0, 2, 1])
        self.assertEqual(last(*RING, from_word(2)), [1, 2, 1, 1, 0, 0, 0])

    def test_several_but_not_all(self):
        # Of 8 orders 4 begin with 2; the first of these begins with leaf 1, the first of all with leaf 0.
        leaves = [simple(1, 2), simple(2, 1), simple(1, 2), simple(2, 1)]
        self.assertEqual(last(*leaves, orders()), [8, 0, 0, 1, 0, 2, 0, 3, 0])
        self.assertEqual(last(*leaves, from_word(2)), [4, 1, 0, 0, 0, 3, 0, 2, 0])

    def test_all_of_them(self):
        self.assertEqual(last(simple(1, 2), simple(2, 1), simple(1, 2), from_word(1)), [2, 0, 0, 1, 0, 2, 0])

    def test_a_leaf_that_may_lie_both_ways_counts_as_it_lies(self):
        told = each(both(8, 3), from_word(8), from_word(3), from_word(5))
        self.assertEqual(told[1:], [[1, 0, 0], [1, 0, 1], [0]])

    def test_both_ways_with_one_word(self):
        self.assertEqual(last(both(5, 5), from_word(5)), [2, 0, 0])

    def test_only_the_first_leaf_counts(self):
        self.assertEqual(last(both(8, 3), simple(3, 8), from_word(3)), [2, 0, 1, 1, 0])
        self.assertEqual(last(both(8, 3), simple(3, 8), from_word(8)), [0])

    def test_no_order(self):
        self.assertEqual(last(simple(1, 2), simple(3, 4), from_word(1)), [0])
        self.assertEqual(last(simple(1, 2), NO_WAY, from_word(1)), [0])

    def test_six_leaves_that_may_all_lie_both_ways(self):
        self.assertEqual(last(*[both(7, 7)] * 6, from_word(7)), [46080, 0, 0, 1, 0, 2, 0, 3, 0, 4, 0, 5, 0])
        self.assertEqual(last(*[both(7, 8)] * 6, from_word(8)), [720, 0, 1, 1, 1, 2, 1, 3, 1, 4, 1, 5, 1])

    def test_asking_changes_nothing(self):
        told = each(*RING, from_word(3), from_word(TOP), from_word(3), orders())
        self.assertEqual(told[3:], [[1, 1, 0, 0, 0, 2, 1], [0], [1, 1, 0, 0, 0, 2, 1], [3, 0, 0, 2, 1, 1, 0]])

    def test_against_every_row_there_could_be(self):
        some = 0
        for leaves in heaps(50, 400):
            rows = rows_by_trying(leaves)
            told = each(*leaves, *[from_word(word) for word in range(5)])[len(leaves):]
            expected = [told_of_from(rows, word) for word in range(5)]
            some += len([one for one in expected if one != [0]]) > 1
            with self.subTest(leaves=leaves):
                self.assertEqual(told, expected)
        self.assertGreater(some, 10)


if __name__ == "__main__":
    unittest.main()
