import unittest

from tests.lines import (
    LONG_RULES, MOST, asked, change, fold, last, lies, rule, shortest, slow_shortest, slow_thinnest, small_rules,
    thinnest,
)


class Thinnest(unittest.TestCase):
    def test_the_longer_the_case_the_thinner(self):
        for length, told in (
            (5, [3, 1, 1, 1]), (6, [3, 1, 1, 1]), (7, [2, 1, 0, 1]), (8, [2, 1, 0, 1]), (9, [2, 2, 0, 1]),
            (11, [2, 2, 0, 1]), (12, [1, 1, 0, 0]), (13, [1, 1, 0, 0]), (MOST, [1, 1, 0, 0]),
        ):
            self.assertEqual(last(rule(3, 4, 5), thinnest(length)), told, length)

    def test_no_way_has_so_small_a_spread(self):
        self.assertEqual(last(rule(3, 4, 5), thinnest(4)), [-6])
        self.assertEqual(last(rule(3, 4, 5), thinnest(0)), [-6])
        self.assertEqual(last(rule(*[60] * 10), thinnest(59)), [-6])

    def test_of_the_ways_that_fit_those_with_the_least_thickness_are_counted(self):
        self.assertEqual(last(rule(1, 1, 2), thinnest(2)), [2, 1, 0, 1])
        self.assertEqual(last(rule(1, 1, 2), thinnest(3)), [2, 2, 0, 1])

    def test_the_first_way_that_fits_may_be_thicker(self):
        self.assertEqual(last(rule(1, 1, 2, 2), thinnest(3)), [2, 1, 1, 0, 1])

    def test_one_rod_tells_no_hinge(self):
        self.assertEqual(asked(thinnest(0), thinnest(1), thinnest(MOST)), [[-6], [1, 1], [1, 1]])
        self.assertEqual(asked(rule(60), thinnest(59), thinnest(60), thinnest(61))[1:], [[-6], [1, 1], [1, 1]])

    def test_equal_rods_in_a_case_as_long_as_one(self):
        self.assertEqual(last(rule(*[60] * 10), thinnest(60)), [10, 1, *[1] * 9])

    def test_the_straight_way_alone_is_one_rod_thick(self):
        self.assertEqual(last(rule(*[60] * 10), thinnest(600)), [1, 1, *[0] * 9])
        self.assertEqual(last(rule(*[60] * 10), thinnest(599))[0], 2)

    def test_around_the_least_spread(self):
        for rods in LONG_RULES:
            least = slow_shortest(rods)[0]
            told = asked(rule(*rods), thinnest(least - 1), thinnest(least), thinnest(least + 1))[1:]
            self.assertEqual(told, [[-6], slow_thinnest(rods, least), slow_thinnest(rods, least + 1)], rods)

    def test_a_case_for_the_shortest_way(self):
        self.assertEqual(asked(rule(3, 4, 5), shortest(), thinnest(5))[1:], [[5, 1, 1, 1], [3, 1, 1, 1]])

    def test_how_it_lies_makes_no_difference_and_stays(self):
        told = asked(rule(3, 4, 5), fold(1, 0), thinnest(7), lies(), thinnest(4), lies(), change(MOST))[2:]
        lying = [4, 0, 3, -1, -6]
        self.assertEqual(told, [[2, 1, 0, 1], lying, [-6], lying, [0, 1, 0]])

    def test_small_rules_at_every_length(self):
        for rods in small_rules():
            for length in range(sum(rods) + 2):
                self.assertEqual(last(rule(*rods), thinnest(length)), slow_thinnest(rods, length), (rods, length))

    def test_long_rules(self):
        for rods in LONG_RULES:
            for length in (60, 77, 100, 121, 180, 300, sum(rods) - 1, sum(rods)):
                self.assertEqual(last(rule(*rods), thinnest(length)), slow_thinnest(rods, length), (rods, length))
