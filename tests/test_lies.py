import unittest

from tests.lines import LONG_RULES, asked, fold, last, lies, rule, slow_places, slow_ways, small_rules


class Lies(unittest.TestCase):
    def test_at_the_beginning(self):
        self.assertEqual(asked(lies()), [[2, 0, 1]])

    def test_one_rod(self):
        self.assertEqual(last(rule(60), lies()), [2, 0, 60])

    def test_straight(self):
        self.assertEqual(last(rule(3, 4, 5), lies()), [4, 0, 3, 7, 12])

    def test_places_below_0(self):
        self.assertEqual(last(rule(3, 4, 5), fold(1, 0), lies()), [4, 0, 3, -1, -6])
        self.assertEqual(last(rule(1, 60, 60), fold(1, 0), lies()), [4, 0, 1, -59, -119])
        self.assertEqual(last(rule(1, *[60] * 9), fold(1, *[0] * 8), lies())[-1], 1 - 540)

    def test_a_folded_hinge_turns_all_rods_behind_it(self):
        self.assertEqual(last(rule(1, 2, 3, 4), fold(0, 1, 0), lies()), [5, 0, 1, 3, 0, -4])
        self.assertEqual(last(rule(1, 2, 3, 4), fold(1, 0, 1), lies()), [5, 0, 1, -1, -4, 0])

    def test_it_changes_nothing(self):
        self.assertEqual(asked(rule(3, 4), fold(1), lies(), lies())[2:], [[3, 0, 3, -1]] * 2)

    def test_every_way_of_small_rules(self):
        for rods in small_rules():
            for way in slow_ways(rods):
                self.hold_against_slow(rods, way)

    def test_many_ways_of_long_rules(self):
        for rods in LONG_RULES:
            for way in slow_ways(rods)[::7]:
                self.hold_against_slow(rods, way)

    def hold_against_slow(self, rods, way):
        self.assertEqual(last(rule(*rods), fold(*way), lies()), [len(rods) + 1, *slow_places(rods, way)])
