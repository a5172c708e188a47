"""runs."""

import random
import unittest

from tests.lines import NO_WAY, begins, both, drop, each, last, orders, runs, simple, turned
from tests.trying import heaps, rows_by_trying, told_of_runs


class Runs(unittest.TestCase):
    def test_no_leaves(self):
        self.assertEqual(each(runs()), [[0]])
        self.assertEqual(last(NO_WAY, drop(0), runs()), [0])
        self.assertEqual(last(simple(1, 2), begins(), runs()), [0])

    def test_one_leaf(self):
        self.assertEqual(last(simple(1, 2), runs()), [0, 0, 0])
        self.assertEqual(last(turned(1, 2), runs()), [0, 0, 1])
        self.assertEqual(last(both(8, 3), runs()), [0, 0, 0])

    def test_an_order_is_there(self):
        self.assertEqual(last(simple(3, 4), turned(1, 2), simple(2, 3), runs()), [0, 1, 1, 2, 0, 0, 0])

    def test_the_first_of_several_orders(self):
        self.assertEqual(last(simple(1, 2), simple(3, 1), simple(2, 3), runs()), [0, 0, 0, 2, 0, 1, 0])

    def test_one_gap(self):
        self.assertEqual(last(simple(1, 2), simple(3, 4), runs()), [1, 0, 0, 1, 0])

    def test_one_gap_where_rows_with_more_stand_before(self):
        # 0 1 2 and 0 2 1 have two gaps, 1 0 2 has but one.
        self.assertEqual(last(simple(2, 3), simple(1, 2), simple(5, 6), runs()), [1, 1, 0, 0, 0, 2, 0])
        self.assertEqual(last(simple(5, 6), simple(2, 3), turned(1, 2), runs()), [1, 0, 0, 2, 1, 1, 0])

    def test_the_first_row_of_those_with_so_few(self):
        # Two runs, 1 to 3 and 5 to 7: the one with the lesser leaf ahead comes first.
        leaves = [simple(6, 7), simple(2, 3), simple(5, 6), simple(1, 2)]
        self.assertEqual(last(*leaves, runs()), [1, 2, 0, 0, 0, 3, 0, 1, 0])

    def test_a_gap_at_once_or_later_is_one_gap(self):
        # 0 1 2 has its gap first, 0 2 1 has it last: the first of the two is told.
        self.assertEqual(last(simple(1, 2), simple(5, 2), simple(2, 9), runs()), [1, 0, 0, 1, 0, 2, 0])

    def test_more_gaps(self):
        self.assertEqual(last(simple(1, 2), simple(3, 4), simple(5, 6), runs()), [2, 0, 0, 1, 0, 2, 0])
        self.assertEqual(last(*[simple(1, 2)] * 4, runs()), [3, 0, 0, 1, 0, 2, 0, 3, 0])
        apart = [simple(10 * number, 10 * number + 1) for number in range(1, 7)]
        self.assertEqual(last(*apart, runs()), [5, 0, 0, 1, 0, 2, 0, 3, 0, 4, 0, 5, 0])

    def test_turned_where_that_has_fewer_gaps(self):
        # Leaf 0 as it's told has a gap on both sides.
        self.assertEqual(last(both(8, 3), simple(1, 3), simple(3, 6), runs()), [0, 1, 0, 0, 1, 2, 0])
        self.assertEqual(last(both(8, 3), simple(3, 5), simple(6, 7), runs()), [1, 0, 1, 1, 0, 2, 0])

    def test_as_it_is_told_where_turned_has_no_fewer(self):
        self.assertEqual(last(both(8, 3), both(9, 4), runs()), [1, 0, 0, 1, 0])
        self.assertEqual(last(both(8, 3), both(3, 8), runs()), [0, 0, 0, 1, 1])
        self.assertEqual(last(both(8, 3), turned(4, 5), runs()), [1, 0, 0, 1, 1])

    def test_no_row(self):
        self.assertEqual(each(NO_WAY, runs()), [[0], [-6]])
        for place in range(4):
            leaves = [simple(1, 2), both(2, 2), simple(5, 6)]
            leaves.insert(place, NO_WAY)
            with self.subTest(place=place):
                told = each(*leaves, runs(), drop(place), runs())
                self.assertEqual(told[4:], [[-6], [3], [1, 0, 0, 1, 0, 2, 0]])

    def test_there_is_always_a_gap_behind_a_lead_to_0(self):
        self.assertEqual(last(simple(1, 0), simple(2, 0), runs()), [1, 0, 0, 1, 0])
        self.assertEqual(last(turned(2, 0), simple(2, 0), simple(1, 2), runs()), [1, 0, 1, 2, 0, 1, 0])
        self.assertEqual(last(simple(2, 0), simple(1, 2), runs()), [0, 1, 0, 0, 0])

    def test_six_leaves_that_may_all_lie_both_ways(self):
        self.assertEqual(last(*[both(7, 7)] * 6, runs()), [0, 0, 0, 1, 0, 2, 0, 3, 0, 4, 0, 5, 0])
        apart = [both(number, 10 + number) for number in range(1, 7)]
        self.assertEqual(last(*apart, runs()), [5, 0, 0, 1, 0, 2, 0, 3, 0, 4, 0, 5, 0])
        # All have 9 as the one word, half of them as it's told, half of them turned.
        shared = [both(1, 9), both(9, 2), both(3, 9), both(9, 4), both(5, 9), both(9, 6)]
        self.assertEqual(last(*shared, runs()), [0, 0, 1, 1, 0, 2, 1, 3, 0, 4, 1, 5, 0])

    def test_asking_changes_nothing(self):
        leaves = [simple(2, 3), simple(1, 2), simple(5, 6)]
        told = each(*leaves, runs(), runs(), orders(), simple(3, 5), runs())
        self.assertEqual(told[3:5], [[1, 1, 0, 0, 0, 2, 0]] * 2)
        self.assertEqual(told[5:], [[0], [3], [0, 1, 0, 0, 0, 3, 0, 2, 0]])

    def test_against_every_row_there_could_be(self):
        seen = set()
        for leaves in heaps(51, 300):
            expected = told_of_runs(rows_by_trying(leaves))
            seen.add(expected[0])
            with self.subTest(leaves=leaves):
                self.assertEqual(last(*leaves, runs()), expected)
        self.assertGreaterEqual(seen, {0, 1, 2})

    def test_against_every_row_of_six_leaves(self):
        source = random.Random(52)
        for turn in range(8):
            leaves = []
            for number in range(6):
                words = source.randint(1, 4), source.randint(0 if number % 2 else 1, 4)
                leaves.append(source.choice((simple, turned))(*words) if number % 2 else both(*words))
            with self.subTest(leaves=leaves):
                self.assertEqual(last(*leaves, runs()), told_of_runs(rows_by_trying(leaves)))


if __name__ == "__main__":
    unittest.main()
