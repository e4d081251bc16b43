import unittest

from tests.lines import LONG_RULES, asked, fold, last, lies, rule, shortest, slow_shortest, small_rules


class Shortest(unittest.TestCase):
    def test_one_way(self):
        self.assertEqual(last(rule(3, 4, 5), shortest()), [5, 1, 1, 1])
        self.assertEqual(last(rule(1, 1), shortest()), [1, 1, 1])

    def test_several_ways_and_the_first_of_them(self):
        self.assertEqual(last(rule(2, 1, 2), shortest()), [3, 3, 0, 1])
        self.assertEqual(last(rule(1, 1, 2), shortest()), [2, 2, 0, 1])
        self.assertEqual(last(rule(2, 1, 1), shortest()), [2, 2, 1, 0])

    def test_one_rod_tells_no_hinge(self):
        self.assertEqual(asked(shortest()), [[1, 1]])
        self.assertEqual(last(rule(60), shortest()), [60, 1])

    def test_equal_rods_all_lie_over_one_another(self):
        self.assertEqual(last(rule(*[60] * 10), shortest()), [60, 1, *[1] * 9])

    def test_it_does_not_fold_the_rule(self):
        self.assertEqual(last(rule(3, 4, 5), fold(1, 0), shortest(), lies()), [4, 0, 3, -1, -6])

    def test_how_it_lies_makes_no_difference(self):
        self.assertEqual(last(rule(2, 1, 2), fold(1, 1), shortest()), [3, 3, 0, 1])

    def test_small_rules(self):
        for rods in small_rules():
            self.assertEqual(last(rule(*rods), shortest()), slow_shortest(rods), rods)

    def test_long_rules(self):
        for rods in LONG_RULES:
            self.assertEqual(last(rule(*rods), shortest()), slow_shortest(rods), rods)

    def test_never_as_long_as_two_of_the_longest_rod(self):
        for rods in [*small_rules(), *LONG_RULES]:
            self.assertLess(last(rule(*rods), shortest())[0], 2 * max(rods), rods)
