import unittest

from tests.lines import (
    LONG_RULES, MOST, asked, change, fold, last, lies, rule, slow_change, slow_shortest, slow_ways, small_rules, turn,
)


class Change(unittest.TestCase):
    def test_nothing_to_change_after_rule(self):
        for length in (12, 13, MOST):
            self.assertEqual(last(rule(3, 4, 5), change(length)), [0, 0, 0], length)

    def test_nothing_to_change_after_fold(self):
        for length in (9, 11, 12, MOST):
            self.assertEqual(last(rule(3, 4, 5), fold(1, 0), change(length)), [0, 1, 0], length)

    def test_nothing_to_change_after_turn(self):
        self.assertEqual(last(rule(3, 4, 5), turn(1), change(7)), [0, 0, 1])
        self.assertEqual(last(rule(3, 4, 5), turn(1), turn(0), change(5)), [0, 1, 1])

    def test_a_new_rule_is_straight_again(self):
        self.assertEqual(last(rule(3, 4, 5), fold(1, 1), rule(3, 4, 5), change(5)), [2, 1, 1])

    def test_the_fewest_changes(self):
        self.assertEqual(last(rule(3, 4, 5), change(7)), [1, 0, 1])
        self.assertEqual(last(rule(3, 4, 5), change(5)), [2, 1, 1])
        self.assertEqual(last(rule(3, 4, 5), fold(1, 0), change(8)), [1, 1, 1])
        self.assertEqual(last(rule(*[60] * 10), change(60)), [9, *[1] * 9])

    def test_fewer_changes_go_ahead_of_a_shorter_spread(self):
        self.assertEqual(last(rule(3, 4, 5), change(11)), [1, 0, 1])

    def test_a_folded_hinge_may_be_made_straight(self):
        self.assertEqual(last(rule(3, 1, 3), fold(1, 1), change(4)), [1, 0, 1])
        self.assertEqual(last(rule(1, 1, 2), fold(1, 0), change(2)), [1, 1, 1])
        self.assertEqual(last(rule(2, 1, 3), fold(1, 1), change(3)), [1, 0, 1])

    def test_the_first_of_several_equally_few_changes_away(self):
        self.assertEqual(last(rule(3, 1, 3), change(4)), [1, 0, 1])
        self.assertEqual(last(rule(3, 4, 5), change(9)), [1, 0, 1])
        self.assertEqual(last(rule(1, 1, 1), fold(0, 0), change(2)), [1, 0, 1])

    def test_no_way_has_so_small_a_spread(self):
        for length in (0, 1, 4):
            self.assertEqual(last(rule(3, 4, 5), change(length)), [-6], length)
        self.assertEqual(last(rule(3, 4, 5), fold(1, 1), change(4)), [-6])

    def test_around_the_least_spread(self):
        for rods in LONG_RULES:
            least = slow_shortest(rods)[0]
            straight = [0] * (len(rods) - 1)
            below, at = asked(rule(*rods), change(least - 1), change(least))[1:]
            self.assertEqual([below, at], [[-6], slow_change(rods, straight, least)], rods)

    def test_one_rod_tells_no_hinge(self):
        self.assertEqual(asked(change(0), change(1), change(MOST)), [[-6], [0], [0]])
        self.assertEqual(asked(rule(60), change(59), change(60), change(61))[1:], [[-6], [0], [0]])

    def test_it_only_tells(self):
        told = asked(rule(3, 4, 5), fold(1, 0), change(5), lies(), change(4), lies(), change(5), change(9))[2:]
        lying = [4, 0, 3, -1, -6]
        self.assertEqual(told, [[1, 1, 1], lying, [-6], lying, [1, 1, 1], [0, 1, 0]])

    def test_small_rules_however_they_lie(self):
        for rods in small_rules():
            for way in slow_ways(rods):
                for length in range(sum(rods) + 2):
                    told = last(rule(*rods), fold(*way), change(length))
                    self.assertEqual(told, slow_change(rods, way, length), (rods, way, length))

    def test_long_rules(self):
        for rods in LONG_RULES:
            for way in slow_ways(rods)[::51]:
                for length in (60, 77, 100, 180):
                    told = last(rule(*rods), fold(*way), change(length))
                    self.assertEqual(told, slow_change(rods, way, length), (rods, way, length))
