import unittest

from tests.lines import (
    LONG_RULES, MOST, asked, fold, last, lies, rule, slow_spread, slow_thickness, slow_ways, small_rules,
)


class Taken(unittest.TestCase):
    def test_spread_then_thickness(self):
        self.assertEqual(last(rule(3, 4, 5), fold(0, 0)), [12, 1])
        self.assertEqual(last(rule(3, 4, 5), fold(0, 1)), [7, 2])
        self.assertEqual(last(rule(3, 4, 5), fold(1, 0)), [9, 2])
        self.assertEqual(last(rule(3, 4, 5), fold(1, 1)), [5, 3])

    def test_no_hinges_where_there_is_one_rod(self):
        self.assertEqual(last(fold()), [1, 1])
        self.assertEqual(last(rule(60), fold()), [60, 1])

    def test_rods_that_only_touch_do_not_lie_over_one_another(self):
        self.assertEqual(last(rule(1, 1, 1), fold(1, 0)), [2, 2])
        self.assertEqual(last(rule(2, 1, 1, 2), fold(0, 1, 0)), [3, 2])

    def test_thickest_away_from_the_ends(self):
        self.assertEqual(last(rule(9, 5, 2, 5), fold(1, 1, 1)), [9, 4])

    def test_ten_rods(self):
        self.assertEqual(last(rule(*[60] * 10), fold(*[1] * 9)), [60, 10])
        self.assertEqual(last(rule(*[60] * 10), fold(*[0] * 9)), [600, 1])

    def test_so_it_lies_now(self):
        self.assertEqual(last(rule(3, 4, 5), fold(1, 0), lies()), [4, 0, 3, -1, -6])
        self.assertEqual(last(rule(3, 4, 5), fold(1, 1), fold(0, 1), lies()), [4, 0, 3, 7, 2])

    def test_every_way_of_small_rules(self):
        for rods in small_rules():
            self.hold_against_slow(rods, slow_ways(rods))

    def test_many_ways_of_long_rules(self):
        for rods in LONG_RULES:
            self.hold_against_slow(rods, slow_ways(rods)[::13])

    def hold_against_slow(self, rods, ways):
        for at in range(0, len(ways), 39):
            some = ways[at:at + 39]
            told = asked(rule(*rods), *[fold(*way) for way in some])[1:]
            self.assertEqual(told, [[slow_spread(rods, way), slow_thickness(rods, way)] for way in some], rods)


class Refused(unittest.TestCase):
    def test_number_of_hinges(self):
        for wrong in ((), (1,), (1, 1, 1), (0,) * 40):
            self.assertEqual(last(rule(3, 4, 5), fold(*wrong)), [-1], wrong)

    def test_a_hinge_where_there_is_one_rod(self):
        self.assertEqual(last(fold(0)), [-1])
        self.assertEqual(last(rule(5), fold(1)), [-1])

    def test_a_hinge_that_is_not_0_or_1(self):
        for wrong in ((2, 0), (0, 2), (1, MOST), (MOST, 1)):
            self.assertEqual(last(rule(3, 4, 5), fold(*wrong)), [-1], wrong)

    def test_all_is_as_it_was(self):
        for wrong in ((), (0,), (0, 0, 0), (0, 2), (2, 0)):
            self.assertEqual(
                asked(rule(3, 4, 5), fold(1, 1), fold(*wrong), lies()),
                [[12], [5, 3], [-1], [4, 0, 3, -1, 4]],
                wrong,
            )
