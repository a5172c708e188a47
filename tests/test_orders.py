"""orders."""

import unittest

from tests.lines import begins, drop, each, last, leaf, orders, simple, turned
from tests.trying import heaps, rows_by_trying, told_of_orders


class Orders(unittest.TestCase):
    def test_no_leaves(self):
        self.assertEqual(each(orders()), [[1]])
        self.assertEqual(last(simple(1, 2), drop(0), orders()), [1])
        self.assertEqual(last(simple(1, 2), begins(), orders()), [1])

    def test_one_leaf(self):
        self.assertEqual(last(simple(1, 2), orders()), [1, 0, 0])
        self.assertEqual(last(turned(1, 2), orders()), [1, 0, 1])

    def test_one_leaf_that_may_lie_both_ways(self):
        self.assertEqual(last(leaf(8, 3, 3, 8), orders()), [2, 0, 0])

    def test_one_leaf_that_may_lie_in_no_way(self):
        self.assertEqual(last(leaf(1, 2, 3, 4), orders()), [0])

    def test_the_only_order_is_not_that_of_the_numbers(self):
        self.assertEqual(last(simple(3, 4), turned(1, 2), simple(2, 3), orders()), [1, 1, 1, 2, 0, 0, 0])

    def test_a_ring_begins_anywhere(self):
        self.assertEqual(last(simple(1, 2), simple(3, 1), simple(2, 3), orders()), [3, 0, 0, 2, 0, 1, 0])

    def test_the_first_order_is_the_one_by_the_first_leaf(self):
        # Leaf 0 ends every order, so the lesser of the two others begins the first one.
        self.assertEqual(last(simple(1, 2), simple(1, 1), simple(1, 1), orders()), [2, 1, 0, 2, 0, 0, 0])

    def test_as_it_is_told_before_turned(self):
        both = leaf(7, 7, 7, 7)
        self.assertEqual(last(both, both, orders()), [8, 0, 0, 1, 0])

    def test_turned_where_only_that_leaves_no_gap(self):
        self.assertEqual(last(leaf(8, 3, 3, 8), simple(3, 5), orders()), [1, 0, 1, 1, 0])
        self.assertEqual(last(leaf(8, 3, 3, 8), simple(8, 5), orders()), [1, 0, 0, 1, 0])

    def test_the_number_counts_before_the_way(self):
        # Both 0 turned, then 1, and 1, then 0 as it's told, are orders.
        self.assertEqual(last(leaf(8, 3, 3, 8), simple(3, 8), orders()), [2, 0, 1, 1, 0])

    def test_none_because_of_a_gap(self):
        self.assertEqual(last(simple(1, 2), simple(3, 4), orders()), [0])
        self.assertEqual(last(simple(1, 2), simple(2, 3), simple(4, 5), orders()), [0])
        self.assertEqual(last(simple(1, 2), simple(1, 2), orders()), [0])

    def test_none_because_a_leaf_may_lie_in_no_way(self):
        for place in range(3):
            leaves = [simple(1, 2), simple(2, 3)]
            leaves.insert(place, leaf(1, 2, 3, 4))
            with self.subTest(place=place):
                self.assertEqual(last(*leaves, orders()), [0])
                self.assertEqual(last(*leaves, drop(place), orders()), [1, 0, 0, 1, 0])

    def test_nothing_follows_a_lead_to_0(self):
        self.assertEqual(last(simple(2, 0), simple(1, 2), orders()), [1, 1, 0, 0, 0])
        self.assertEqual(last(simple(1, 0), simple(2, 0), orders()), [0])
        self.assertEqual(last(simple(2, 0), turned(2, 0), simple(1, 2), orders()), [0])

    def test_six_leaves_in_a_chain(self):
        chain = [simple(6, 0), turned(5, 6), simple(4, 5), turned(3, 4), simple(2, 3), turned(1, 2)]
        self.assertEqual(last(*chain, orders()), [1, 5, 1, 4, 0, 3, 1, 2, 0, 1, 1, 0, 0])

    def test_six_leaves_in_every_order_and_way(self):
        self.assertEqual(last(*[leaf(7, 7, 7, 7)] * 6, orders()), [46080, 0, 0, 1, 0, 2, 0, 3, 0, 4, 0, 5, 0])

    def test_six_leaves_each_in_one_way(self):
        # Three lead from 1 to 2 and three back, so they take turns: 3! * 3! orders that begin with 1, as many with 2.
        told = last(*[simple(1, 2), turned(2, 1)] * 3, orders())
        self.assertEqual(told, [72, 0, 0, 1, 1, 2, 0, 3, 1, 4, 0, 5, 1])

    def test_a_leaf_back_to_its_own_word_may_always_be_turned(self):
        # All with 7 up and all with 9000 up: 6! orders each.
        told = last(*[simple(7, 7), turned(7, 7)] * 3, orders())
        self.assertEqual(told, [1440, 0, 0, 1, 1, 2, 0, 3, 1, 4, 0, 5, 1])

    def test_numbers_after_a_drop(self):
        told = each(simple(1, 2), simple(3, 4), simple(2, 3), orders(), drop(0), orders(), drop(0), orders())
        self.assertEqual(told[3:], [[1, 0, 0, 2, 0, 1, 0], [2], [1, 1, 0, 0, 0], [1], [1, 0, 0]])

    def test_asking_changes_nothing(self):
        told = each(simple(2, 3), simple(1, 2), orders(), orders(), simple(3, 4), orders())
        self.assertEqual(told[2:], [[1, 1, 0, 0, 0], [1, 1, 0, 0, 0], [2], [1, 1, 0, 0, 0, 2, 0]])

    def test_against_every_row_there_could_be(self):
        some = none = 0
        for leaves in heaps(49, 400):
            expected = told_of_orders(rows_by_trying(leaves))
            some += expected[0] > 0
            none += expected[0] == 0
            with self.subTest(leaves=leaves):
                self.assertEqual(last(*leaves, orders()), expected)
        self.assertGreater(some, 50)
        self.assertGreater(none, 50)


if __name__ == "__main__":
    unittest.main()
