import unittest

from tests.lines import LONG_RULES, MOST, asked, change, fold, last, lies, mark, rule, slow_mark, small_rules


class Mark(unittest.TestCase):
    def test_a_length_of_0(self):
        self.assertEqual(asked(mark(0)), [[-1]])
        self.assertEqual(last(rule(1, 1), mark(0)), [-1])
        self.assertEqual(last(rule(3, 4, 5), mark(0)), [-1])

    def test_a_rod_of_that_length(self):
        self.assertEqual(last(rule(3, 4, 5), mark(3)), [1, 0, 1])
        self.assertEqual(last(rule(3, 4, 5), mark(5)), [1, 2, 3])

    def test_joints_that_are_not_neighbours(self):
        for length, told in ((7, [1, 0, 2]), (9, [1, 1, 3]), (2, [1, 0, 3]), (6, [1, 0, 3]), (12, [1, 0, 3])):
            self.assertEqual(last(rule(3, 4, 5), mark(length)), told, length)

    def test_several_pairs_and_the_first_of_them(self):
        self.assertEqual(last(rule(3, 4, 5), mark(1)), [2, 0, 2])
        self.assertEqual(last(rule(3, 4, 5), mark(4)), [2, 0, 3])
        self.assertEqual(last(rule(2, 1, 1), mark(1)), [3, 0, 2])
        self.assertEqual(last(rule(5, 3, 3, 3), mark(3)), [4, 1, 2])

    def test_a_pair_counts_once_in_however_many_ways(self):
        self.assertEqual(last(rule(1, 1, 1), mark(1)), [4, 0, 1])
        self.assertEqual(last(rule(*[60] * 10), mark(60)), [30, 0, 1])
        self.assertEqual(last(rule(*[60] * 10), mark(600)), [1, 0, 10])

    def test_no_pair_tells_0_alone(self):
        for length in (8, 10, 11, 13, MOST):
            self.assertEqual(last(rule(3, 4, 5), mark(length)), [0], length)

    def test_one_rod(self):
        self.assertEqual(asked(mark(1), mark(2), mark(MOST)), [[1, 0, 1], [0], [0]])
        self.assertEqual(asked(rule(60), mark(0), mark(59), mark(60), mark(61))[1:], [[-1], [0], [1, 0, 1], [0]])

    def test_how_it_lies_makes_no_difference_and_stays(self):
        told = asked(rule(3, 4, 5), fold(1, 0), mark(7), lies(), mark(0), lies(), mark(8), lies(), change(MOST))[2:]
        lying = [4, 0, 3, -1, -6]
        self.assertEqual(told, [[1, 0, 2], lying, [-1], lying, [0], lying, [0, 1, 0]])

    def test_small_rules_at_every_length(self):
        for rods in small_rules():
            for length in range(sum(rods) + 2):
                self.assertEqual(last(rule(*rods), mark(length)), slow_mark(rods, length), (rods, length))

    def test_long_rules_at_every_length(self):
        for rods in LONG_RULES:
            for length in range(sum(rods) + 2):
                self.assertEqual(last(rule(*rods), mark(length)), slow_mark(rods, length), (rods, length))
