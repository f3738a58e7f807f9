"""Tests of promises 1, 2 and 3 and of the interface's section twosquares/points.py.

What the functions refuse is tested in test_whole.py.
"""

import unittest

from tests.case import Case
from tests.things import HUGE, LARGE_POINTS, NO_POINTS, Named, POINTS, SMALL_POINTS, Whole
from twosquares import points
from twosquares.points import is_point, length, mirror, plus, times, turned, upright

# Told turn by turn, so that it does not rest on the program's own arithmetic.
FOUR_TURNS = [
    [(3, 1), (-1, 3), (-3, -1), (1, -3)],
    [(1, 3), (-3, 1), (-1, -3), (3, -1)],
    [(2, 2), (-2, 2), (-2, -2), (2, -2)],
    [(5, 0), (0, 5), (-5, 0), (0, -5)],
    [(1, 0), (0, 1), (-1, 0), (0, -1)],
    [(HUGE, 2), (-2, HUGE), (-HUGE, -2), (2, -HUGE)],
    [(HUGE, 0), (0, HUGE), (-HUGE, 0), (0, -HUGE)],
]


class Interface(Case):

    def test_names_arguments_and_default_values(self):
        self.assert_interface(points, {
            "is_point": "(thing)", "plus": "(one, other)", "times": "(one, other)",
            "length": "(point)", "mirror": "(point)", "turned": "(point, quarters=1)",
            "upright": "(point)",
        })

    def test_arguments_by_name(self):
        self.assertIs(is_point(thing=(1, 2)), True)
        self.assertEqual(plus(other=(3, 4), one=(1, 2)), (4, 6))
        self.assertEqual(times(other=(3, 4), one=(1, 2)), (-5, 10))
        self.assertEqual(length(point=(3, 4)), 25)
        self.assertEqual(mirror(point=(3, 4)), (3, -4))
        self.assertEqual(turned(quarters=2, point=(3, 4)), (-3, -4))
        self.assertEqual(upright(point=(3, 4)), (0, (3, 4)))


class Points(Case):
    """Promise 1: what is a point."""

    def test_points(self):
        for point in POINTS:
            self.assertIs(is_point(point), True)

    def test_no_points(self):
        for thing in NO_POINTS:
            self.assertIs(is_point(thing), False)

    def test_tuples_and_ints_of_a_kind_of_their_own_are_tuples_and_ints(self):
        self.assertIs(is_point(Named(3, 4)), True)
        self.assertIs(is_point((Whole.THREE, 4)), True)
        self.assertIs(is_point((3, Whole.FOUR)), True)
        self.assertIs(is_point(Named(3, True)), False)

    def test_answers_are_plain_whatever_kind_of_point_is_handed_in(self):
        for point in [Named(3, 4), (Whole.THREE, Whole.FOUR), Named(Whole.THREE, Whole.FOUR)]:
            for quarters in range(-4, 5):
                self.assert_point(turned(point, quarters))
            self.assert_point(plus(point, point))
            self.assert_point(times(point, point))
            self.assert_point(mirror(point))
            self.assert_number(length(point))
            self.assert_point(upright(point)[1])
        self.assertEqual(turned((1, 0), Whole.THREE), (0, -1))


class Arithmetic(Case):
    """Promise 2: the sum, the product, the length, the mirror."""

    def test_told_sums(self):
        for one, other, wanted in [
            ((1, 2), (3, 4), (4, 6)), ((0, 0), (0, 0), (0, 0)), ((-1, 2), (3, -4), (2, -2)),
            ((5, -7), (-5, 7), (0, 0)), ((2 ** 64, 1), (-1, 2 ** 64), (2 ** 64 - 1, 2 ** 64 + 1)),
            ((10 ** 50, -10 ** 50), (1, 1), (10 ** 50 + 1, 1 - 10 ** 50)),
        ]:
            self.assertEqual(plus(one, other), wanted)
            self.assertEqual(plus(other, one), wanted)

    def test_told_products(self):
        for one, other, wanted in [
            ((1, 2), (3, 4), (-5, 10)), ((0, 0), (3, 4), (0, 0)), ((1, 0), (3, 4), (3, 4)),
            ((0, 1), (3, 4), (-4, 3)), ((0, 1), (0, 1), (-1, 0)), ((-1, 2), (3, -4), (5, 10)),
            ((2, 0), (-3, 5), (-6, 10)), ((1, 1), (1, 1), (0, 2)),
            ((10 ** 30, 1), (10 ** 30, -1), (10 ** 60 + 1, 0)),
            ((10 ** 30, 1), (1, 10 ** 30), (0, 10 ** 60 + 1)),
            ((-2 ** 64, 2 ** 70), (3, 2), (-3 * 2 ** 64 - 2 ** 71, 3 * 2 ** 70 - 2 ** 65)),
        ]:
            self.assertEqual(times(one, other), wanted)
            self.assertEqual(times(other, one), wanted)

    def test_told_lengths(self):
        for point, wanted in [
            ((0, 0), 0), ((1, 0), 1), ((0, -1), 1), ((1, 1), 2), ((3, 4), 25), ((-3, 4), 25),
            ((2, -1), 5), ((-7, 0), 49), ((2 ** 64, -2 ** 64), 2 ** 129),
            ((10 ** 40, 1), 10 ** 80 + 1), ((1, -HUGE), HUGE * HUGE + 1),
        ]:
            self.assertEqual(length(point), wanted)
            self.assert_number(length(point))

    def test_told_mirrors(self):
        for point, wanted in [
            ((0, 0), (0, 0)), ((3, 4), (3, -4)), ((3, -4), (3, 4)), ((-3, 0), (-3, 0)),
            ((0, 5), (0, -5)), ((-2 ** 80, 2 ** 90), (-2 ** 80, -2 ** 90)),
        ]:
            self.assertEqual(mirror(point), wanted)

    def test_sums_and_products_of_all_points(self):
        for a, b in POINTS:
            for c, d in POINTS:
                self.assertEqual(plus((a, b), (c, d)), (a + c, b + d))
                self.assertEqual(times((a, b), (c, d)), (a * c - b * d, a * d + b * c))

    def test_a_point_times_its_mirror_is_its_length_across(self):
        for point in POINTS:
            self.assertEqual(times(point, mirror(point)), (length(point), 0))
            self.assertEqual(times(mirror(point), point), (length(point), 0))

    def test_the_length_of_a_product_is_the_product_of_the_lengths(self):
        for one in POINTS:
            for other in LARGE_POINTS + SMALL_POINTS[::7]:
                self.assertEqual(length(times(one, other)), length(one) * length(other))

    def test_kinds_of_the_answers(self):
        for one in POINTS:
            self.assert_point(mirror(one))
            self.assert_number(length(one))
            for other in [(0, 0), (-1, 2), (HUGE, -HUGE)]:
                self.assert_point(plus(one, other))
                self.assert_point(times(one, other))


class Turns(Case):
    """Promise 3: quarter turns and the upright turn."""

    def test_told_turns(self):
        for turns in FOUR_TURNS:
            for at, point in enumerate(turns):
                for quarters in range(-9, 10):
                    self.assertEqual(turned(point, quarters), turns[(at + quarters) % 4])

    def test_one_turn_where_none_is_told(self):
        for a, b in POINTS:
            self.assertEqual(turned((a, b)), (-b, a))
            self.assertEqual(turned((a, b)), times((a, b), (0, 1)))

    def test_no_turn_and_four_lead_back(self):
        for point in POINTS:
            for quarters in [0, 4, -4, 8]:
                self.assertEqual(turned(point, quarters), point)

    def test_very_many_turns_either_way(self):
        for size in [4 * 2 ** 64, 4 * 10 ** 50, 4 * HUGE]:
            for sign in [1, -1]:
                self.assertEqual(turned((3, 1), sign * size), (3, 1))
                self.assertEqual(turned((3, 1), sign * size + 1), (-1, 3))
                self.assertEqual(turned((3, 1), sign * size + 2), (-3, -1))
                self.assertEqual(turned((3, 1), sign * size + 3), (1, -3))

    def test_turns_below_0_go_the_other_way(self):
        for point in POINTS:
            self.assertEqual(turned(turned(point, 1), -1), point)
            self.assertEqual(turned(turned(point, -3), 3), point)
            self.assertEqual(turned(point, -1), times(point, (0, -1)))

    def test_the_origin_stays(self):
        for quarters in [0, 1, 2, 3, 4, -1, -2, -3, HUGE, -HUGE]:
            self.assertEqual(turned((0, 0), quarters), (0, 0))
        self.assertEqual(upright((0, 0)), (0, (0, 0)))

    def test_all_four_turns_have_one_upright_turn(self):
        for turns in FOUR_TURNS:
            for at, point in enumerate(turns):
                self.assertEqual(upright(point), (-at % 4, turns[0]))

    def test_upright_by_the_words_of_the_promise(self):
        for point in POINTS:
            quarters, stood = upright(point)
            self.assertIn(quarters, (0, 1, 2, 3))
            self.assertEqual(turned(point, quarters), stood)
            self.assertTrue(stood == (0, 0) or stood[0] > 0 and stood[1] >= 0)
            for fewer in range(quarters):
                across, up = turned(point, fewer)
                self.assertFalse(across > 0 and up >= 0 or (across, up) == (0, 0))

    def test_kinds_of_the_answers(self):
        for point in POINTS:
            for quarters in range(-3, 5):
                self.assert_point(turned(point, quarters))
            answer = upright(point)
            self.assertIs(type(answer), tuple)
            self.assertEqual(len(answer), 2)
            self.assert_number(answer[0])
            self.assert_point(answer[1])


if __name__ == "__main__":
    unittest.main()
