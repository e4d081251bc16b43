import unittest

from tests.lines import LONG_RULES, MOST, asked, fits, fold, last, lies, rule, slow_fits, slow_shortest, small_rules


class Fits(unittest.TestCase):
    def test_how_many_ways(self):
        for length, ways in ((4, 0), (5, 1), (6, 1), (7, 2), (8, 2), (9, 3), (11, 3), (12, 4), (13, 4)):
            self.assertEqual(last(rule(3, 4, 5), fits(length)), [ways], length)

    def test_no_way_has_a_spread_of_0(self):
        self.assertEqual(asked(fits(0)), [[0]])
        self.assertEqual(last(rule(*[1] * 10), fits(0)), [0])

    def test_around_the_least_spread(self):
        for rods in LONG_RULES:
            least, ways = slow_shortest(rods)[:2]
            below, at, above = asked(rule(*rods), fits(least - 1), fits(least), fits(least + 1))[1:]
            self.assertEqual([below, at, above], [[0], [ways], slow_fits(rods, least + 1)], rods)

    def test_every_way_fits_the_greatest_length(self):
        self.assertEqual(asked(fits(MOST)), [[1]])
        self.assertEqual(last(rule(3, 4, 5), fits(MOST)), [4])
        self.assertEqual(last(rule(*[60] * 10), fits(MOST)), [512])

    def test_one_rod(self):
        self.assertEqual(asked(rule(7), fits(6), fits(7), fits(8))[1:], [[0], [1], [1]])

    def test_the_straight_way_alone_is_as_long_as_all_rods(self):
        self.assertEqual(asked(rule(*[60] * 10), fits(599), fits(600))[1:], [[511], [512]])

    def test_how_it_lies_makes_no_difference_and_stays(self):
        self.assertEqual(asked(rule(3, 4, 5), fold(1, 0), fits(7), lies())[2:], [[2], [4, 0, 3, -1, -6]])

    def test_small_rules_at_every_length(self):
        for rods in small_rules():
            for length in range(sum(rods) + 2):
                self.assertEqual(last(rule(*rods), fits(length)), slow_fits(rods, length), (rods, length))
