"""sure and behind."""

import unittest

from tests.lines import NO_WAY, TOP, begins, behind, both, drop, each, last, orders, simple, sure, turned
from tests.trying import heaps, rows_by_trying, told_of_behind, told_of_sure

# The one order is 2 0 1.
CHAIN = [simple(2, 3), turned(3, 4), simple(1, 2)]
RING = [simple(1, 2), simple(3, 1), simple(2, 3)]
# Two orders, 1 0 2 3 4 and 2 0 1 3 4.
SWAYING = [simple(2, 1), simple(1, 2), simple(1, 2), simple(2, 5), simple(5, 6)]


class Sure(unittest.TestCase):
    def test_no_leaves(self):
        self.assertEqual(each(sure()), [[0]])
        self.assertEqual(last(*CHAIN, begins(), sure()), [0])

    def test_one_leaf(self):
        self.assertEqual(last(simple(1, 2), sure()), [0])
        self.assertEqual(last(both(8, 3), sure()), [0])

    def test_one_order_by_the_first_leaf_then_the_second(self):
        self.assertEqual(last(*CHAIN, sure()), [2, 0, 1, 2, 0])

    def test_two_leaves(self):
        self.assertEqual(last(simple(2, 3), simple(1, 2), sure()), [1, 1, 0])

    def test_several_orders_share_some(self):
        # In both 0 is beside 1 and beside 2, but in the other turn; 3 has now 2, now 1 ahead of it.
        self.assertEqual(last(*SWAYING, orders()), [2, 1, 0, 0, 0, 2, 0, 3, 0, 4, 0])
        self.assertEqual(last(*SWAYING, sure()), [1, 3, 4])

    def test_neighbours_in_the_other_turn_are_not_the_same(self):
        # 0 1 and 1 0 are both orders: neighbours in each, but not the one ahead of the other.
        self.assertEqual(last(simple(1, 2), simple(2, 1), sure()), [0])

    def test_neighbours_in_most_orders_are_not_sure(self):
        self.assertEqual(last(*RING, orders())[0], 3)
        self.assertEqual(last(*RING, sure()), [0])

    def test_further_behind_is_not_beside(self):
        # 0 is ahead of 3 in every order, but not right ahead.
        leaves = [simple(1, 2), both(2, 2), both(2, 2), simple(2, 4)]
        self.assertEqual(last(*leaves, orders())[0], 8)
        self.assertEqual(last(*leaves, sure()), [0])

    def test_which_way_a_leaf_lies_does_not_matter(self):
        # Two orders, which differ only in how leaf 1 lies.
        self.assertEqual(last(simple(7, 8), both(7, 7), sure()), [1, 1, 0])

    def test_no_order(self):
        self.assertEqual(last(simple(1, 2), simple(2, 3), simple(7, 8), sure()), [0])
        self.assertEqual(last(*CHAIN, NO_WAY, sure()), [0])

    def test_six_leaves_in_a_chain(self):
        chain = [simple(6, 0), turned(5, 6), simple(4, 5), turned(3, 4), simple(2, 3), turned(1, 2)]
        self.assertEqual(last(*chain, sure()), [5, 1, 0, 2, 1, 3, 2, 4, 3, 5, 4])

    def test_six_leaves_in_every_order(self):
        self.assertEqual(last(*[both(7, 7)] * 6, sure()), [0])

    def test_asking_changes_nothing(self):
        told = each(*CHAIN, sure(), sure(), drop(0), sure())
        self.assertEqual(told[3:], [[2, 0, 1, 2, 0], [2, 0, 1, 2, 0], [2], [0]])

    def test_against_every_row_there_could_be(self):
        some = 0
        for leaves in heaps(53, 300):
            expected = told_of_sure(rows_by_trying(leaves), len(leaves))
            some += expected[0] > 0
            with self.subTest(leaves=leaves):
                self.assertEqual(last(*leaves, sure()), expected)
        self.assertGreater(some, 30)


class Behind(unittest.TestCase):
    def test_in_all_orders(self):
        self.assertEqual(last(*CHAIN, behind(2, 0)), [1])
        self.assertEqual(last(*CHAIN, behind(0, 1)), [1])
        self.assertEqual(last(*SWAYING, behind(3, 4)), [2])

    def test_in_some_orders(self):
        self.assertEqual(last(*SWAYING, behind(1, 0)), [1])
        self.assertEqual(last(*SWAYING, behind(0, 1)), [1])
        self.assertEqual(each(*RING, behind(0, 2), behind(2, 1), behind(1, 0))[3:], [[2], [2], [2]])

    def test_in_none(self):
        self.assertEqual(each(*RING, behind(2, 0), behind(1, 2), behind(0, 1))[3:], [[0], [0], [0]])

    def test_not_the_other_way_round(self):
        self.assertEqual(last(*CHAIN, behind(0, 2)), [0])
        self.assertEqual(last(*CHAIN, behind(1, 0)), [0])

    def test_not_further_behind(self):
        self.assertEqual(last(*CHAIN, behind(2, 1)), [0])

    def test_the_last_is_not_ahead_of_the_first(self):
        self.assertEqual(last(*CHAIN, behind(1, 2)), [0])
        self.assertEqual(last(*RING, behind(1, 2)), [0])

    def test_a_leaf_with_itself(self):
        self.assertEqual(each(*CHAIN, *[behind(number, number) for number in range(3)])[3:], [[0], [0], [0]])
        self.assertEqual(last(both(7, 7), behind(0, 0)), [0])

    def test_each_way_of_lying_is_an_order_of_its_own(self):
        self.assertEqual(last(simple(7, 8), both(7, 7), behind(1, 0)), [2])
        self.assertEqual(last(both(7, 7), both(7, 7), behind(1, 0)), [4])

    def test_no_order(self):
        self.assertEqual(last(simple(1, 2), simple(2, 3), simple(7, 8), behind(0, 1)), [0])
        self.assertEqual(last(*CHAIN, NO_WAY, behind(2, 0)), [0])
        self.assertEqual(last(NO_WAY, behind(0, 0)), [0])

    def test_no_such_leaf(self):
        self.assertEqual(each(behind(0, 0)), [[-2]])
        for number in (3, 4, 6, 7, TOP - 1, TOP):
            with self.subTest(number=number):
                told = each(*CHAIN, behind(number, 0), behind(2, number), behind(number, number), behind(2, 0))
                self.assertEqual(told[3:], [[-2], [-2], [-2], [1]])

    def test_no_such_leaf_where_there_is_no_order(self):
        self.assertEqual(last(NO_WAY, behind(0, 1)), [-2])
        self.assertEqual(last(simple(1, 2), simple(5, 6), behind(2, 0)), [-2])

    def test_numbers_after_a_drop(self):
        told = each(*CHAIN, drop(1), behind(1, 0), behind(2, 0), behind(0, 2))
        self.assertEqual(told[3:], [[2], [1], [-2], [-2]])

    def test_six_leaves_in_every_order(self):
        # 5 places for the pair, 4! turns of the others, 2 ways for each of the six.
        self.assertEqual(last(*[both(7, 7)] * 6, behind(5, 0)), [5 * 24 * 64])

    def test_against_every_row_there_could_be(self):
        seen = set()
        for leaves in heaps(54, 200):
            rows = rows_by_trying(leaves)
            pairs = [(first, second) for first in range(len(leaves)) for second in range(len(leaves))]
            told = each(*leaves, *[behind(*pair) for pair in pairs])[len(leaves):]
            expected = [told_of_behind(rows, *pair) for pair in pairs]
            seen.update(one[0] for one in expected)
            with self.subTest(leaves=leaves):
                self.assertEqual(told, expected)
        self.assertGreaterEqual(seen, {0, 1, 2, 4})


if __name__ == "__main__":
    unittest.main()
