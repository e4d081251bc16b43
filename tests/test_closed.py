import unittest

from tests.lines import LONG_RULES, MOST, asked, change, closed, fold, last, lies, rule, slow_closed, small_rules


class Closed(unittest.TestCase):
    def test_one_way(self):
        for distance, told in ((12, [1, 0, 0]), (2, [1, 0, 1]), (6, [1, 1, 0]), (4, [1, 1, 1])):
            self.assertEqual(last(rule(3, 4, 5), closed(distance)), told, distance)

    def test_no_way_tells_0_alone(self):
        for distance in (0, 1, 3, 5, 7, 11, 13, MOST):
            self.assertEqual(last(rule(3, 4, 5), closed(distance)), [0], distance)

    def test_both_ends_at_one_place(self):
        self.assertEqual(last(rule(1, 1), closed(0)), [1, 1])
        self.assertEqual(last(rule(1, 1, 2), closed(0)), [1, 0, 1])
        self.assertEqual(last(rule(1, 1, 1, 1), closed(0)), [3, 0, 1, 0])
        self.assertEqual(last(rule(*[60] * 10), closed(0)), [126, 0, 0, 0, 0, 1, 0, 0, 0, 0])

    def test_the_last_joint_to_the_right_or_to_the_left(self):
        self.assertEqual(last(rule(1, 1, 2), closed(2)), [2, 1, 0])
        self.assertEqual(last(rule(1, 60), closed(59)), [1, 1])

    def test_all_rods_together_in_the_straight_way_alone(self):
        for rods in LONG_RULES:
            told = asked(rule(*rods), closed(sum(rods)), closed(sum(rods) + 1))[1:]
            self.assertEqual(told, [[1, *[0] * (len(rods) - 1)], [0]], rods)

    def test_the_ends_not_the_spread(self):
        self.assertEqual(last(rule(3, 4, 5), closed(9)), [0])

    def test_one_rod_tells_no_hinge(self):
        self.assertEqual(asked(closed(0), closed(1), closed(2), closed(MOST)), [[0], [1], [0], [0]])
        self.assertEqual(asked(rule(60), closed(59), closed(60), closed(61))[1:], [[0], [1], [0]])

    def test_how_it_lies_makes_no_difference_and_stays(self):
        told = asked(rule(3, 4, 5), fold(1, 0), closed(2), lies(), closed(0), lies(), change(MOST))[2:]
        lying = [4, 0, 3, -1, -6]
        self.assertEqual(told, [[1, 0, 1], lying, [0], lying, [0, 1, 0]])

    def test_small_rules_at_every_distance(self):
        for rods in small_rules():
            for distance in range(sum(rods) + 2):
                self.assertEqual(last(rule(*rods), closed(distance)), slow_closed(rods, distance), (rods, distance))

    def test_long_rules(self):
        for rods in LONG_RULES:
            for distance in (0, 1, 2, 3, 11, 50, 120, 201, sum(rods) - 2):
                self.assertEqual(last(rule(*rods), closed(distance)), slow_closed(rods, distance), (rods, distance))
