import unittest

from tests.lines import MOST, asked, fits, fold, last, lies, rule, turn


class Taken(unittest.TestCase):
    def test_answers_how_long_it_is(self):
        self.assertEqual(last(rule(3, 4, 5)), [12])
        self.assertEqual(last(rule(7)), [7])

    def test_ten_rods(self):
        self.assertEqual(last(rule(*range(1, 11))), [55])
        self.assertEqual(last(rule(*[60] * 10)), [600])

    def test_rods_of_1_and_60(self):
        self.assertEqual(last(rule(1)), [1])
        self.assertEqual(last(rule(60)), [60])
        self.assertEqual(last(rule(1, 60, 1)), [62])

    def test_all_hinges_are_straight(self):
        straight = [4, 0, 3, 7, 12]
        self.assertEqual(last(rule(3, 4, 5), lies()), straight)
        self.assertEqual(last(rule(3, 4, 5), fold(1, 1), rule(3, 4, 5), lies()), straight)
        self.assertEqual(last(rule(1, 1), turn(0), rule(3, 4, 5), lies()), straight)
        self.assertEqual(last(rule(1, 1, 1, 1), fold(1, 1, 1), rule(3, 4, 5), lies()), straight)

    def test_a_later_rule_has_its_own_number_of_hinges(self):
        self.assertEqual(asked(rule(3, 4, 5), rule(2), lies(), turn(0)), [[12], [2], [2, 0, 2], [-2]])
        self.assertEqual(asked(rule(2), rule(3, 4), turn(0)), [[2], [7], [4, 2]])


class Refused(unittest.TestCase):
    def test_number_of_rods(self):
        self.assertEqual(last(rule()), [-1])
        self.assertEqual(last(rule(*[1] * 11)), [-1])
        self.assertEqual(last(rule(*[1] * 40)), [-1])

    def test_length_of_a_rod(self):
        for wrong in (0, 61, MOST):
            for rods in ((wrong,), (wrong, 5, 5), (5, wrong, 5), (5, 5, wrong), (5,) * 9 + (wrong,)):
                self.assertEqual(last(rule(*rods)), [-1], rods)

    def test_both_wrong_is_one_refusal(self):
        self.assertEqual(last(rule(*[0] * 11)), [-1])

    def test_all_is_as_it_was(self):
        for wrong in ((), (1,) * 11, (0,), (61,), (1, 2, 0), (MOST, 1, 1)):
            self.assertEqual(
                asked(rule(3, 4, 5), fold(1, 1), rule(*wrong), lies(), turn(1), fits(5)),
                [[12], [5, 3], [-1], [4, 0, 3, -1, 4], [9, 2], [1]],
                wrong,
            )

    def test_the_rule_of_the_beginning_stays_too(self):
        self.assertEqual(asked(rule(0, 0), lies()), [[-1], [2, 0, 1]])
