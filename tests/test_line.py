import contextlib
import io
import time
import unittest
from unittest import mock

from foldingrule import hinged
from tests.lines import (
    LONG_RULES, MOST, asked, change, closed, fits, fold, lies, line, mark, marks, rule, shortest, slow_asked,
    slow_shortest, slow_ways, thinnest, turn,
)

BEGINNINGS = (
    (rule(3, 4), [7]),
    (fold(), [1, 1]),
    (turn(0), [-2]),
    (lies(), [2, 0, 1]),
    (shortest(), [1, 1]),
    (fits(1), [1]),
    (thinnest(1), [1, 1]),
    (closed(1), [1]),
    (mark(1), [1, 0, 1]),
    (marks(), [1, 2]),
    (change(1), [0]),
)


class Unchangeable(list):
    """A list that tells when it is changed, if only for a while."""

    def changed(self, *given, **named):
        raise AssertionError("the list that was handed in is changed")

    append = extend = insert = pop = remove = clear = sort = reverse = changed
    __setitem__ = __delitem__ = __iadd__ = __imul__ = changed


def ten_tellings(rods):
    """Ten of the calls of which a line has at most ten."""
    least = slow_shortest(rods)[0]
    return [
        shortest(), fits(least + 20), thinnest(least - 1), thinnest(least + 20), thinnest(MOST), closed(sum(rods) % 2),
        closed(MOST), marks(), change(least - 1), change(least + 20),
    ]


def forty_calls(rods):
    """Forty calls on one rule, each of the eleven and refused ones among them."""
    way = slow_ways(rods)[85]
    calls = [rule(*rods), *ten_tellings(rods)[:4], fold(*way), lies(), *ten_tellings(rods)[4:], lies()]
    calls += [turn(0), mark(0), lies(), turn(len(way)), lies(), rule(), lies()]
    calls += [fold(*way, 0), fold(*way[1:], 2), lies()]
    calls += [call for hinge in (7, 3, 1, 3, 0, 5) for call in (turn(hinge), mark(hinge + 1))]
    return calls + [mark(sum(rods)), mark(MOST), rule(5), lies()]


class Lines(unittest.TestCase):
    def test_the_list_as_it_is_told(self):
        self.assertEqual(
            hinged.answers([0, 3, 3, 4, 5, 1, 2, 1, 0, 2, 1, 2, 2, 3, 4, 5, 9, 0, 0, 1, 1, 7]),
            [1, 12, 2, 9, 2, 2, 5, 3, 1, -2, 5, 4, 0, 3, -1, 4, 4, 5, 1, 1, 1, 1, 3, 1, -1, 1, -1],
        )

    def test_any_call_first(self):
        for call, told in BEGINNINGS:
            self.assertEqual(asked(call), [told], call)

    def test_any_call_behind_any(self):
        for call, told in BEGINNINGS:
            if call[0] != 0:
                for other, also in BEGINNINGS:
                    self.assertEqual(asked(call, other), [told, also], (call, other))

    def test_forty_calls(self):
        for rods in LONG_RULES:
            calls = forty_calls(rods)
            self.assertEqual(len(calls), 40)
            self.assertEqual({call[0] for call in calls}, set(range(11)))
            self.assertEqual(asked(*calls), slow_asked(*calls), rods)

    def test_forty_calls_and_any_of_the_eleven_first(self):
        calls = forty_calls(LONG_RULES[5])
        for number in range(11):
            first = [call[0] for call in calls].index(number)
            turned = calls[first:] + calls[:first]
            self.assertEqual(asked(*turned), slow_asked(*turned), number)

    def test_the_eleven_calls_in_many_orders_on_one_rule(self):
        eleven = [
            rule(7, 2, 5, 3), fold(1, 0, 1), turn(1), lies(), shortest(), fits(9), thinnest(9), closed(3), mark(5),
            marks(), change(8),
        ]
        for step in range(1, 11):
            ordered = [rule(4, 4, 9, 1)] + [eleven[step * at % 11] for at in range(11)]
            self.assertEqual(asked(*ordered), slow_asked(*ordered), step)
            self.assertEqual(asked(*ordered[::-1]), slow_asked(*ordered[::-1]), step)

    def test_calls_that_tell_leave_the_rule_as_it_was(self):
        telling = [call for length in (0, 4, 5, 8, 9, MOST)
                   for call in (fits(length), thinnest(length), closed(length), mark(length), change(length))]
        for call in [lies(), shortest(), marks(), *telling]:
            told = asked(rule(3, 4, 5), turn(0), call, lies(), turn(1), call, lies(), change(MOST))
            self.assertEqual(told[3:5] + told[6:], [[4, 0, 3, -1, -6], [5, 3], [4, 0, 3, -1, 4], [0, 1, 1]], call)

    def test_the_longest_lines_are_answered_within_a_few_seconds(self):
        for rods in (LONG_RULES[1], LONG_RULES[5]):
            lengths = [mark(1 + 20 * at) for at in range(30)]
            ten_rods = [rule(*rods), *ten_tellings(rods), *lengths[:29]]
            ten_thinnest = [rule(*rods), *[thinnest(MOST)] * 10, *lengths[:29]]
            one_rod = [*ten_tellings((1,)), *lengths]
            for calls in (ten_rods, ten_thinnest, one_rod):
                self.assertEqual(len(calls), 40)
                began = time.perf_counter()
                told = asked(*calls)
                self.assertLess(time.perf_counter() - began, 3, rods)
                self.assertEqual(told, slow_asked(*calls), rods)

    def test_the_longest_rows(self):
        self.assertEqual(asked(*[rule(*[1] * 40)] * 20, *[fold(*[0] * 40)] * 20), [[-1]] * 40)

    def test_a_number_that_no_call_has(self):
        for number in (11, MOST):
            with self.assertRaises(hinged.UnknownCall):
                hinged.answers([number])

    def test_rows_that_hold_numbers_of_calls(self):
        self.assertEqual(
            asked(rule(4, 3, 5), fold(1, 0), rule(0, 1, 2), fold(3, 4), lies()),
            [[12], [8, 2], [-1], [-1], [4, 0, 4, 1, -4]],
        )


class TheInterface(unittest.TestCase):
    def test_what_is_handed_in_stays_as_it_was(self):
        for rods in LONG_RULES:
            handed = line(*forty_calls(rods))
            before = list(handed)
            hinged.answers(handed)
            self.assertEqual(handed, before)

    def test_what_is_handed_in_is_not_changed_for_a_while_either(self):
        handed = line(*forty_calls(LONG_RULES[0]))
        self.assertEqual(hinged.answers(Unchangeable(handed)), hinged.answers(handed))

    def test_the_same_list_is_answered_alike(self):
        for rods in LONG_RULES:
            handed = line(*forty_calls(rods))
            self.assertEqual(hinged.answers(handed), hinged.answers(handed))

    def test_nothing_is_kept_from_one_time_to_the_next(self):
        for call, told in BEGINNINGS:
            asked(rule(3, 4, 5), fold(1, 1))
            self.assertEqual(asked(call), [told])

    def test_what_was_given_back_may_be_changed(self):
        first = hinged.answers(lies())
        first[1:] = [99]
        self.assertEqual(hinged.answers(lies()), [3, 2, 0, 1])

    def test_a_list_of_whole_numbers_is_given_back(self):
        told = hinged.answers(line(*forty_calls(LONG_RULES[0])))
        self.assertIs(type(told), list)
        self.assertEqual({type(number) for number in told}, {int})

    def test_it_prints_and_reads_nothing(self):
        printed = io.StringIO()
        with contextlib.redirect_stdout(printed), contextlib.redirect_stderr(printed):
            with mock.patch("sys.stdin", None), mock.patch("builtins.open", side_effect=AssertionError):
                asked(*forty_calls(LONG_RULES[0]))
        self.assertEqual(printed.getvalue(), "")
