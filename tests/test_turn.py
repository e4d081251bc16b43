import unittest

from tests.lines import MOST, asked, fold, last, lies, rule, slow_places, slow_spread, slow_thickness, turn


class Taken(unittest.TestCase):
    def test_spread_then_thickness(self):
        self.assertEqual(last(rule(3, 4, 5), turn(0)), [9, 2])
        self.assertEqual(last(rule(3, 4, 5), turn(1)), [7, 2])
        self.assertEqual(last(rule(3, 4, 5), fold(1, 1), turn(0)), [7, 2])

    def test_so_it_lies_now(self):
        self.assertEqual(last(rule(3, 4, 5), turn(0), lies()), [4, 0, 3, -1, -6])
        self.assertEqual(last(rule(3, 4, 5), turn(0), turn(1), lies()), [4, 0, 3, -1, 4])

    def test_twice_is_as_before(self):
        self.assertEqual(
            asked(rule(3, 4, 5), turn(1), turn(1), lies()),
            [[12], [7, 2], [12, 1], [4, 0, 3, 7, 12]],
        )
        self.assertEqual(last(rule(3, 4, 5), fold(1, 1), turn(0), turn(0), lies()), [4, 0, 3, -1, 4])

    def test_every_hinge_of_ten_rods(self):
        rods = (31, 7, 60, 12, 45, 2, 28, 53, 19, 40)
        hinges = [0, 1, 1, 0, 1, 0, 0, 1, 1]
        for hinge in range(9):
            way = list(hinges)
            way[hinge] = 1 - way[hinge]
            self.assertEqual(
                asked(rule(*rods), fold(*hinges), turn(hinge), lies())[2:],
                [[slow_spread(rods, way), slow_thickness(rods, way)], [11, *slow_places(rods, way)]],
                hinge,
            )


class Refused(unittest.TestCase):
    def test_beyond_the_last_hinge(self):
        self.assertEqual(last(rule(3, 4, 5), turn(2)), [-2])
        self.assertEqual(last(rule(3, 4, 5), turn(3)), [-2])
        self.assertEqual(last(rule(3, 4, 5), turn(MOST)), [-2])
        self.assertEqual(asked(rule(*[1] * 10), turn(8), turn(9))[1:], [[9, 2], [-2]])

    def test_any_hinge_where_there_is_one_rod(self):
        for hinge in (0, 1, MOST):
            self.assertEqual(last(turn(hinge)), [-2])
            self.assertEqual(last(rule(60), turn(hinge)), [-2])

    def test_all_is_as_it_was(self):
        self.assertEqual(
            asked(rule(3, 4, 5), fold(1, 1), turn(2), turn(MOST), lies()),
            [[12], [5, 3], [-2], [-2], [4, 0, 3, -1, 4]],
        )
