import contextlib
import io
import unittest
from unittest import mock

from foldingrule import hinged
from tests.lines import (
    LONG_RULES, MOST, asked, fits, fold, lies, line, rule, shortest, slow_fits, slow_places, slow_shortest,
    slow_spread, slow_thickness, slow_ways, turn,
)

BEGINNINGS = (
    (rule(3, 4), [7]),
    (fold(), [1, 1]),
    (turn(0), [-2]),
    (lies(), [2, 0, 1]),
    (shortest(), [1, 1]),
    (fits(1), [1]),
)


class Unchangeable(list):
    """A list that tells when it is changed, if only for a while."""

    def changed(self, *given, **named):
        raise AssertionError("the list that was handed in is changed")

    append = extend = insert = pop = remove = clear = sort = reverse = changed
    __setitem__ = __delitem__ = __iadd__ = __imul__ = changed


def forty_calls(rods):
    """Forty calls on one rule, refused ones among them, and what the document asks for each."""
    calls = [rule(*rods)]
    told = [[sum(rods)]]
    way = [0] * (len(rods) - 1)
    for step in range(9):
        way[step % len(way)] = 1 - way[step % len(way)]
        calls += [turn(step % len(way)), turn(len(way)), lies()]
        told += [[slow_spread(rods, way), slow_thickness(rods, way)], [-2], [len(rods) + 1, *slow_places(rods, way)]]
    calls += [shortest(), fits(100), shortest(), fits(MOST), fits(0)]
    told += [slow_shortest(rods), slow_fits(rods, 100), slow_shortest(rods), [2 ** len(way)], [0]]
    other = list(slow_ways(rods)[85])
    calls += [fold(*other), rule(), lies(), fold(*other, 0), lies(), rule(5), lies()]
    lying = [len(rods) + 1, *slow_places(rods, other)]
    told += [[slow_spread(rods, other), slow_thickness(rods, other)], [-1], lying, [-1], lying, [5], [2, 0, 5]]
    return calls, told


class Lines(unittest.TestCase):
    def test_the_list_as_it_is_told(self):
        self.assertEqual(
            hinged.answers([0, 3, 3, 4, 5, 1, 2, 1, 0, 2, 1, 2, 2, 3, 4, 5, 9, 0, 0, 1, 1, 7]),
            [1, 12, 2, 9, 2, 2, 5, 3, 1, -2, 5, 4, 0, 3, -1, 4, 4, 5, 1, 1, 1, 1, 3, 1, -1, 1, -1],
        )

    def test_any_call_first(self):
        for call, told in BEGINNINGS:
            self.assertEqual(asked(call), [told], call)

    def test_any_call_behind_any(self):
        for call, told in BEGINNINGS:
            if call[0] != 0:
                for other, also in BEGINNINGS:
                    self.assertEqual(asked(call, other), [told, also], (call, other))

    def test_forty_calls(self):
        for rods in LONG_RULES:
            calls, told = forty_calls(rods)
            self.assertEqual(len(calls), 40)
            self.assertEqual(asked(*calls), told, rods)

    def test_the_longest_rows(self):
        self.assertEqual(asked(*[rule(*[1] * 40)] * 20, *[fold(*[0] * 40)] * 20), [[-1]] * 40)

    def test_rows_that_hold_numbers_of_calls(self):
        self.assertEqual(
            asked(rule(4, 3, 5), fold(1, 0), rule(0, 1, 2), fold(3, 4), lies()),
            [[12], [8, 2], [-1], [-1], [4, 0, 4, 1, -4]],
        )


class TheInterface(unittest.TestCase):
    def test_what_is_handed_in_stays_as_it_was(self):
        for rods in LONG_RULES:
            handed = line(*forty_calls(rods)[0])
            before = list(handed)
            hinged.answers(handed)
            self.assertEqual(handed, before)

    def test_what_is_handed_in_is_not_changed_for_a_while_either(self):
        handed = line(*forty_calls(LONG_RULES[0])[0])
        self.assertEqual(hinged.answers(Unchangeable(handed)), hinged.answers(handed))

    def test_the_same_list_is_answered_alike(self):
        for rods in LONG_RULES:
            handed = line(*forty_calls(rods)[0])
            self.assertEqual(hinged.answers(handed), hinged.answers(handed))

    def test_nothing_is_kept_from_one_time_to_the_next(self):
        for call, told in BEGINNINGS:
            asked(rule(3, 4, 5), fold(1, 1))
            self.assertEqual(asked(call), [told])

    def test_what_was_given_back_may_be_changed(self):
        first = hinged.answers(lies())
        first[1:] = [99]
        self.assertEqual(hinged.answers(lies()), [3, 2, 0, 1])

    def test_a_list_of_whole_numbers_is_given_back(self):
        told = hinged.answers(line(*forty_calls(LONG_RULES[0])[0]))
        self.assertIs(type(told), list)
        self.assertEqual({type(number) for number in told}, {int})

    def test_it_prints_and_reads_nothing(self):
        printed = io.StringIO()
        with contextlib.redirect_stdout(printed), contextlib.redirect_stderr(printed):
            with mock.patch("sys.stdin", None), mock.patch("builtins.open", side_effect=AssertionError):
                asked(*forty_calls(LONG_RULES[0])[0])
        self.assertEqual(printed.getvalue(), "")
