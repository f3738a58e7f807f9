"""Tests of promise 1 over the whole program: all functions that take a point or a number."""

import os
import unittest

from tests.case import Case
from tests.things import (
    CHANGEABLE, HUGE, NO_NUMBERS, NO_POINTS, Named, POINTS, Whole, copies,
)
from twosquares.dividing import common, divides, parted
from twosquares.errors import NoNumber, NoPoint
from twosquares.parts import is_simple, parts_of
from twosquares.points import is_point, length, mirror, plus, times, turned, upright
from twosquares.primes import point_of, primes_of

OF_ONE_POINT = [length, mirror, turned, upright, is_simple, parts_of]
OF_TWO_POINTS = [plus, times, parted, divides, common]
OF_A_NUMBER = [primes_of, point_of]

# Good ones to stand beside what is refused, (0, 0) and very large ones among them.
BESIDE = [(1, 2), (0, 0), (HUGE, -HUGE)]


def ask():
    """Answer what each function tells of some points and numbers."""
    return [
        is_point((1, 2)), plus((1, 2), (3, 4)), times((1, 2), (3, 4)), length((1, 2)),
        mirror((1, 2)), turned((1, 2)), turned((1, 2), -5), upright((-1, 2)),
        parted((7, 5), (2, 1)), divides((2, 1), (5, 0)), divides((2, 1), (5, 1)),
        common((5, 0), (3, 4)), common((0, 0), (-3, 4)), primes_of(1), primes_of(360),
        point_of(13), is_simple((2, 3)), is_simple((3, 4)), parts_of((0, 1)), parts_of((30, 0)),
    ]


class Refusals(Case):

    def test_no_point_alone(self):
        for function in OF_ONE_POINT:
            for thing in NO_POINTS:
                self.assert_refused(NoPoint, function, thing)
                self.assert_refused(NoPoint, function, point=thing)

    def test_no_point_as_first_as_second_and_as_both(self):
        for function in OF_TWO_POINTS:
            for thing in NO_POINTS:
                for other in BESIDE:
                    self.assert_refused(NoPoint, function, thing, other)
                    self.assert_refused(NoPoint, function, other, thing)
                self.assert_refused(NoPoint, function, thing, thing)
                self.assert_refused(NoPoint, function, thing, None)
                self.assert_refused(NoPoint, function, None, thing)

    def test_no_number_where_one_is_wanted(self):
        for thing in NO_NUMBERS:
            for function in OF_A_NUMBER:
                self.assert_refused(NoNumber, function, thing)
            for point in BESIDE:
                self.assert_refused(NoNumber, turned, point, thing)
                self.assert_refused(NoNumber, turned, point, quarters=thing)

    def test_numbers_out_of_bounds(self):
        for function in OF_A_NUMBER:
            for number in [0, -1, -HUGE, 1000001, 1000033, 2 ** 64 + 13, HUGE]:
                self.assert_refused(NoNumber, function, number)

    def test_lengths_out_of_bounds(self):
        for function in [is_simple, parts_of]:
            for point in [(0, 0), (1000, 1), (-1, 1000), (708, -708), (0, HUGE), (HUGE, 1)]:
                self.assert_refused(NoNumber, function, point)

    def test_no_point_comes_ahead_of_no_number(self):
        for thing in NO_POINTS:
            for quarters in [None, True, 0.5, "1", (1, 2), 0, 4, -1, HUGE]:
                self.assert_refused(NoPoint, turned, thing, quarters)
        for quarters in NO_NUMBERS:
            self.assert_refused(NoPoint, turned, [1, 2], quarters)
        # Each would be out of bounds if it were a point.
        for thing in [(0, False), (0, 0, 0), [1000, 1], (HUGE, True), (None, HUGE), (HUGE, 0.0)]:
            self.assert_refused(NoPoint, is_simple, thing)
            self.assert_refused(NoPoint, parts_of, thing)

    def test_no_point_comes_ahead_of_no_quotient(self):
        for thing in NO_POINTS:
            self.assert_refused(NoPoint, parted, thing, (0, 0))


class Askers(Case):

    def test_what_is_handed_in_is_not_changed(self):
        handed = copies(CHANGEABLE)
        for thing in handed:
            is_point(thing)
            for function in OF_ONE_POINT:
                self.assert_refused(NoPoint, function, thing)
            for function in OF_TWO_POINTS:
                self.assert_refused(NoPoint, function, thing, (1, 2))
                self.assert_refused(NoPoint, function, (1, 2), thing)
            for function in OF_A_NUMBER:
                self.assert_refused(NoNumber, function, thing)
            self.assert_refused(NoNumber, turned, (1, 2), thing)
        self.assertEqual(handed, CHANGEABLE)

    def test_the_same_question_has_the_same_answer_after_others(self):
        first = ask()
        for point in POINTS:
            common(point, (1, 2)), parted(point, (1, 2)), divides(point, (1, 2)), upright(point)
        for across in range(1, 40):
            parts_of((across, 7)), is_simple((across, 7)), primes_of(across)
        self.assert_refused(NoPoint, parted, (1, 2), None)
        self.assert_refused(NoNumber, parts_of, (0, 0))
        self.assertEqual(ask(), first)

    def test_told_lists_are_the_askers_own(self):
        first, kept = ask(), ask()
        for answer in first:
            if isinstance(answer, list):
                answer.append(2)
            if isinstance(answer, tuple) and isinstance(answer[-1], list):
                answer[-1].insert(0, (1, 1))
        self.assertNotEqual(first, kept)
        self.assertEqual(ask(), kept)

    def test_tuples_and_ints_of_a_kind_of_their_own_get_plain_answers(self):
        def kinds(thing):
            if isinstance(thing, (list, tuple)):
                return [type(thing)] + [kinds(part) for part in thing]
            return type(thing)
        for point in [Named(3, 4), (Whole.THREE, Whole.FOUR), Named(Whole.THREE, Whole.FOUR)]:
            for function in OF_ONE_POINT:
                told, wanted = function(point), function((3, 4))
                self.assertEqual((told, kinds(told)), (wanted, kinds(wanted)))
            for function in OF_TWO_POINTS:
                for one, other in [(point, (5, 0)), ((5, 0), point), (point, point),
                                   (point, (0, 0)), ((0, 0), point)]:
                    if (function, other) != (parted, (0, 0)):
                        told = function(one, other)
                        wanted = function((one[0] + 0, one[1] + 0), (other[0] + 0, other[1] + 0))
                        self.assertEqual((told, kinds(told)), (wanted, kinds(wanted)))


class Sources(Case):

    def test_only_what_needs_no_clock_chance_or_files_is_imported(self):
        folder = os.path.join(os.path.dirname(os.path.dirname(os.path.abspath(__file__))),
                              "twosquares")
        for name in sorted(os.listdir(folder)):
            if not name.endswith(".py"):
                continue
            with open(os.path.join(folder, name), encoding="utf-8") as source:
                lines = source.read().splitlines()
            for line in lines:
                if line.startswith(("import ", "from ")):
                    self.assertRegex(line, r"^from (twosquares\.\w+|math) import ")


if __name__ == "__main__":
    unittest.main()
