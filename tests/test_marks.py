import unittest

from tests.lines import LONG_RULES, MOST, asked, change, fold, last, lies, mark, marks, rule, slow_marks, small_rules


class Marks(unittest.TestCase):
    def test_how_many_and_the_least_that_cannot_be(self):
        self.assertEqual(last(rule(3, 4, 5), marks()), [9, 8])
        self.assertEqual(last(rule(1, 3), marks()), [4, 5])
        self.assertEqual(last(rule(1, 5), marks()), [4, 2])

    def test_where_1_cannot_be(self):
        self.assertEqual(last(rule(2, 4), marks()), [3, 1])
        self.assertEqual(last(rule(*[60] * 10), marks()), [10, 1])

    def test_a_distance_of_0_does_not_count(self):
        self.assertEqual(last(rule(1, 1), marks()), [2, 3])
        self.assertEqual(last(rule(7, 7), marks()), [2, 1])

    def test_where_all_lengths_up_to_all_rods_together_can_be(self):
        self.assertEqual(last(rule(1, 2), marks()), [3, 4])
        self.assertEqual(last(rule(1, 3, 2), marks()), [6, 7])
        self.assertEqual(last(rule(*[1] * 10), marks()), [10, 11])

    def test_one_rod(self):
        self.assertEqual(asked(marks()), [[1, 2]])
        self.assertEqual(last(rule(1), marks()), [1, 2])
        self.assertEqual(last(rule(2), marks()), [1, 1])
        self.assertEqual(last(rule(60), marks()), [1, 1])

    def test_just_the_lengths_that_mark_finds_pairs_for(self):
        rods = LONG_RULES[5]
        found = [length for length in range(1, sum(rods) + 2) if last(rule(*rods), mark(length)) != [0]]
        count, missing = last(rule(*rods), marks())
        self.assertEqual(count, len(found))
        self.assertEqual(found[:missing - 1], list(range(1, missing)))
        self.assertNotIn(missing, found)

    def test_how_it_lies_makes_no_difference_and_stays(self):
        told = asked(rule(3, 4, 5), fold(1, 0), marks(), lies(), change(MOST))[2:]
        self.assertEqual(told, [[9, 8], [4, 0, 3, -1, -6], [0, 1, 0]])

    def test_small_rules(self):
        for rods in small_rules():
            self.assertEqual(last(rule(*rods), marks()), slow_marks(rods), rods)

    def test_long_rules(self):
        for rods in LONG_RULES:
            self.assertEqual(last(rule(*rods), marks()), slow_marks(rods), rods)
