"""least."""

import random
import unittest

from tests.lines import NO_WAY, begins, both, drop, each, last, least, leaf, runs, simple, turned
from tests.trying import told_of_least


class Least(unittest.TestCase):
    def test_no_leaves(self):
        self.assertEqual(each(least()), [[0, 0]])
        self.assertEqual(last(NO_WAY, drop(0), least()), [0, 0])
        self.assertEqual(last(simple(1, 2), begins(), least()), [0, 0])

    def test_one_leaf(self):
        self.assertEqual(last(simple(1, 2), least()), [1, 1, 1, 2, 1])
        self.assertEqual(last(turned(1, 2), least()), [1, 1, 1, 2, 1])
        self.assertEqual(last(leaf(9999, 1, 1, 9998), least()), [1, 1, 9999, 2, 1])

    def test_words_in_the_midst_are_no_words_of_the_leaf(self):
        # Both leaves have 9000 between their pages, which says nothing of how they follow one another.
        self.assertEqual(last(simple(1, 2), simple(3, 4), least()), [2, 2, 1, 2, 1, 3, 2, 1])

    def test_one_part_with_as_many_runs_as_leaves_too_many(self):
        self.assertEqual(last(simple(1, 2), simple(2, 3), least()), [1, 1, 1, 3, 1])
        self.assertEqual(last(simple(1, 2), simple(1, 2), simple(1, 2), least()), [3, 1, 1, 2, 3])
        self.assertEqual(last(simple(1, 2), simple(3, 2), simple(2, 4), least()), [2, 1, 1, 4, 2])

    def test_too_many_are_added_over_the_words_and_too_few_do_not_count_against_them(self):
        # 1 has two too many, 3 has one; 2 and 4 have more that lead to them.
        leaves = [simple(1, 2), simple(1, 4), simple(3, 4)]
        self.assertEqual(last(*leaves, least()), [3, 1, 1, 4, 3])

    def test_a_part_without_leaves_too_many_counts_for_1(self):
        self.assertEqual(last(simple(1, 2), simple(2, 3), simple(3, 1), least()), [1, 1, 1, 3, 0])
        self.assertEqual(last(simple(1, 2), simple(2, 1), simple(5, 6), turned(6, 5), least()), [2, 2, 1, 2, 0, 5, 2, 0])

    def test_parts_with_and_without(self):
        leaves = [simple(1, 2), simple(2, 1), simple(5, 6), simple(5, 7), simple(5, 6)]
        self.assertEqual(last(*leaves, least()), [4, 2, 1, 2, 0, 5, 3, 3])

    def test_the_first_word_is_the_first_in_the_order_of_leaves_not_of_numbers(self):
        self.assertEqual(last(simple(9, 4), simple(4, 2), least()), [1, 1, 9, 3, 1])
        self.assertEqual(last(simple(4, 2), simple(9, 4), least()), [1, 1, 4, 3, 1])

    def test_begins_with_comes_ahead_of_leads_to(self):
        self.assertEqual(last(simple(3, 1), least()), [1, 1, 3, 2, 1])
        self.assertEqual(last(turned(3, 1), least()), [1, 1, 3, 2, 1])

    def test_parts_in_the_order_of_their_first_words(self):
        told = last(simple(9, 8), simple(2, 1), simple(5, 4), least())
        self.assertEqual(told, [3, 3, 9, 2, 1, 2, 2, 1, 5, 2, 1])

    def test_a_late_leaf_joins_two_parts(self):
        leaves = [simple(1, 2), simple(3, 4), simple(5, 6)]
        self.assertEqual(last(*leaves, least()), [3, 3, 1, 2, 1, 3, 2, 1, 5, 2, 1])
        self.assertEqual(last(*leaves, simple(6, 1), least()), [2, 2, 1, 4, 1, 3, 2, 1])
        self.assertEqual(last(*leaves, simple(2, 5), least()), [2, 2, 1, 4, 1, 3, 2, 1])
        self.assertEqual(last(*leaves, simple(5, 4), least()), [4, 2, 1, 2, 1, 3, 4, 3])
        self.assertEqual(last(*leaves, simple(6, 1), simple(4, 6), least()), [2, 1, 1, 6, 2])

    def test_words_hang_together_whichever_the_leaf_leads_to(self):
        self.assertEqual(last(simple(1, 3), simple(2, 3), least()), [2, 1, 1, 3, 2])
        self.assertEqual(last(simple(3, 1), simple(3, 2), least()), [2, 1, 3, 3, 2])

    def test_0_is_a_word_too(self):
        self.assertEqual(last(simple(1, 0), least()), [1, 1, 1, 2, 1])
        self.assertEqual(last(turned(1, 0), least()), [1, 1, 1, 2, 1])

    def test_words_hang_together_by_0(self):
        self.assertEqual(last(simple(1, 0), turned(2, 0), least()), [2, 1, 1, 3, 2])
        self.assertEqual(last(simple(1, 2), simple(3, 0), simple(2, 0), least()), [2, 1, 1, 4, 2])

    def test_a_leaf_that_may_lie_both_ways(self):
        self.assertEqual(each(both(8, 3), least()), [[0], [-4]])
        self.assertEqual(each(both(5, 5), least()), [[0], [-4]])

    def test_a_leaf_back_to_its_own_word_may_lie_both_ways(self):
        self.assertEqual(last(simple(7, 7), least()), [-4])
        self.assertEqual(last(turned(7, 7), least()), [-4])

    def test_a_leaf_that_may_lie_in_no_way(self):
        self.assertEqual(each(NO_WAY, least()), [[0], [-4]])
        self.assertEqual(last(leaf(1, 0, 2, 0), least()), [-4])

    def test_the_refusal_wherever_the_leaf_is_and_nothing_is_changed(self):
        for wrong in (NO_WAY, both(1, 2)):
            for place in range(3):
                leaves = [simple(1, 2), turned(2, 3)]
                leaves.insert(place, wrong)
                with self.subTest(wrong=wrong, place=place):
                    told = each(*leaves, least(), least(), drop(place), least())
                    self.assertEqual(told[3:], [[-4], [-4], [2], [1, 1, 1, 3, 1]])

    def test_asking_changes_nothing(self):
        told = each(simple(1, 2), least(), least(), simple(2, 1), least(), drop(0), least())
        self.assertEqual(told[1:3], [[1, 1, 1, 2, 1]] * 2)
        self.assertEqual(told[4:], [[1, 1, 1, 2, 0], [1], [1, 1, 2, 2, 1]])

    def test_by_words_one_knows_how_few_runs_there_are(self):
        source = random.Random(55)
        seen = set()
        for turn in range(500):
            leaves = []
            for number in range(source.randint(1, 6)):
                begin = source.randint(1, 6)
                lead = source.choice([word for word in range(7) if word != begin])
                leaves.append(source.choice((simple, turned))(begin, lead))
            by_words, by_rows = each(*leaves, least(), runs())[-2:]
            seen.add((by_words[0], by_words[1]))
            with self.subTest(leaves=leaves):
                self.assertEqual(by_words, told_of_least(leaves))
                self.assertEqual(by_words[0], by_rows[0] + 1)
        self.assertGreaterEqual(seen, {(1, 1), (2, 1), (2, 2), (3, 1), (3, 2), (3, 3), (4, 1)})


if __name__ == "__main__":
    unittest.main()
