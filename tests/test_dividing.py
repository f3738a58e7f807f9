"""Tests of promises 4, 5 and 6 and of the interface's section twosquares/dividing.py."""

import unittest

from tests.beside import four_turns, product, size, stands_upright, total
from tests.case import Case
from tests.things import HUGE, LARGE_POINTS, Named, POINTS, SMALL_POINTS, Whole
from twosquares import dividing
from twosquares.dividing import common, divides, parted
from twosquares.errors import NoPoint, NoQuotient

# One divisor in each quarter of the plane and on each axis, small and very large.
DIVISORS = [
    turn for divisor in [(1, 0), (2, 0), (1, 1), (2, 1), (3, 4), (1, 7), (2 ** 64 + 1, 3),
                         (10 ** 40, 10 ** 41 + 9), (HUGE, 1), (HUGE + 2, HUGE), (4 * HUGE, 0)]
    for turn in four_turns(divisor)
]

# Points that share no part but units, whatever their size.
APART = [
    ((1, 0), (5, 7)), ((2, 1), (1, 2)), ((3, 0), (7, 0)), ((1, 1), (3, 0)), ((4, 1), (1, 4)),
    ((2 ** 64 + 1, 0), (2 ** 64, 0)), ((HUGE, 1), (HUGE + 1, 1)), ((HUGE, HUGE + 1), (1, 0)),
    ((10 ** 80, 1), (0, 10 ** 80)),
]

PARTS = [
    (1, 0), (1, 1), (2, 0), (2, 1), (1, 2), (3, 0), (6, 4), (10 ** 20 + 1, 5), (7, 2 ** 90),
    (HUGE, 0), (5, HUGE),
]


class Interface(Case):

    def test_names_and_arguments(self):
        self.assert_interface(dividing, {
            "parted": "(point, divisor)", "divides": "(divisor, point)", "common": "(one, other)",
        })

    def test_arguments_by_name(self):
        self.assertEqual(parted(divisor=(2, 1), point=(7, 5)), ((4, 1), (0, -1)))
        self.assertIs(divides(point=(4, 2), divisor=(2, 1)), True)
        self.assertIs(divides(point=(2, 1), divisor=(4, 2)), False)
        part, first, second = common(other=(0, 0), one=(3, 1))
        self.assertEqual(part, (3, 1))
        self.assertEqual(product((3, 1), first), (3, 1))
        self.assert_point(second)

    def test_kinds_of_the_answers(self):
        handed = [(7, -3), (HUGE, 2), Named(3, 4), (Whole.THREE, Whole.FOUR), (0, 0)]
        for point in handed:
            for other in handed:
                self.assertIs(type(divides(other, point)), bool)
                told = common(point, other)
                if other != (0, 0):
                    told += parted(point, other)
                    self.assertIs(type(parted(point, other)), tuple)
                self.assertEqual(len(told), 3 if other == (0, 0) else 5)
                for answer in told:
                    self.assert_point(answer)
                self.assertIs(type(common(point, other)), tuple)


class Quotients(Case):
    """Promise 4: quotient and rest."""

    def assert_nearest(self, exact, over, number):
        """Assert that a number is nearest to exact over a length, of two the greater one."""
        # The double of what is left lies from -over up to, but not at, over. At -over the exact
        # one lies just between the number and the one below it.
        self.assertTrue(-over <= 2 * (exact - number * over) < over)

    def assert_parted(self, point, divisor):
        quotient, rest = parted(point, divisor)
        self.assertTrue(total(product(quotient, divisor), rest) == point)
        self.assertTrue(2 * size(rest) <= size(divisor))
        exact = product(point, (divisor[0], -divisor[1]))
        self.assert_nearest(exact[0], size(divisor), quotient[0])
        self.assert_nearest(exact[1], size(divisor), quotient[1])

    def test_told_quotients_and_rests(self):
        for point, divisor, wanted in [
            ((7, 5), (2, 1), ((4, 1), (0, -1))),
            ((27, -23), (8, 1), ((3, -3), (0, -2))),
            ((5, 0), (2, 1), ((2, -1), (0, 0))),
            ((0, 0), (3, 4), ((0, 0), (0, 0))),
            ((1, 0), (3, 4), ((0, 0), (1, 0))),
            ((5, 7), (1, 0), ((5, 7), (0, 0))),
            ((5, 7), (0, 1), ((7, -5), (0, 0))),
            ((5, 7), (-1, 0), ((-5, -7), (0, 0))),
            ((5, 7), (0, -1), ((-7, 5), (0, 0))),
            ((5, -7), (3, 0), ((2, -2), (-1, -1))),
            ((-5, 7), (3, 0), ((-2, 2), (1, 1))),
            ((4, 4), (3, 0), ((1, 1), (1, 1))),
            ((10 ** 40 + 1, 1), (10 ** 20, 0), ((10 ** 20, 0), (1, 1))),
            ((10 ** 40, 0), (10 ** 20, 1), ((10 ** 20, -1), (-1, 0))),
            ((-2 ** 130, 2 ** 65 + 1), (2 ** 65, 0), ((-2 ** 65, 1), (0, 1))),
        ]:
            self.assertEqual(parted(point, divisor), wanted)
            self.assert_parted(point, divisor)

    def test_just_between_two_at_across(self):
        for across, wanted in [(1, 1), (-1, 0), (3, 2), (-3, -1), (5, 3), (-5, -2)]:
            self.assertEqual(parted((across, 0), (2, 0)), ((wanted, 0), (across - 2 * wanted, 0)))
            self.assertEqual(parted((across, 4), (2, 0)), ((wanted, 2), (across - 2 * wanted, 0)))

    def test_just_between_two_at_up(self):
        for up, wanted in [(1, 1), (-1, 0), (3, 2), (-3, -1), (5, 3), (-5, -2)]:
            self.assertEqual(parted((0, up), (2, 0)), ((0, wanted), (0, up - 2 * wanted)))
            self.assertEqual(parted((-4, up), (2, 0)), ((-2, wanted), (0, up - 2 * wanted)))

    def test_just_between_two_at_both(self):
        for point, wanted in [
            ((1, 1), ((1, 1), (-1, -1))), ((-1, 1), ((0, 1), (-1, -1))),
            ((1, -1), ((1, 0), (-1, -1))), ((-1, -1), ((0, 0), (-1, -1))),
            ((3, -5), ((2, -2), (-1, -1))), ((-3, 5), ((-1, 3), (-1, -1))),
        ]:
            self.assertEqual(parted(point, (2, 0)), wanted)

    def test_just_between_two_by_divisors_in_each_quarter(self):
        # The exact quotient of (1, 0) by (1, 1) is (1/2, -1/2), and so on round the plane.
        for point, divisor, wanted in [
            ((1, 0), (1, 1), ((1, 0), (0, -1))), ((1, 0), (-1, 1), ((0, 0), (1, 0))),
            ((1, 0), (-1, -1), ((0, 1), (0, 1))), ((1, 0), (1, -1), ((1, 1), (-1, 0))),
            ((3, 0), (0, 2), ((0, -1), (1, 0))), ((3, 0), (-2, 0), ((-1, 0), (1, 0))),
            ((3, 0), (0, -2), ((0, 2), (-1, 0))),
        ]:
            self.assertEqual(parted(point, divisor), wanted)

    def test_just_between_two_very_far_out(self):
        for far in [2 ** 64, 10 ** 40, HUGE]:
            for divisor, half in [((2, 0), (1, 0)), ((2 * far, 0), (far, 0))]:
                whole = product((far, -far), divisor)
                for turn, wanted in [((1, 0), (1, 0)), ((-1, 0), (0, 0)),
                                     ((0, 1), (0, 1)), ((0, -1), (0, 0)),
                                     ((1, 1), (1, 1)), ((-1, -1), (0, 0))]:
                    point = total(whole, product(half, turn))
                    quotient, _ = parted(point, divisor)
                    self.assertTrue(quotient == total((far, -far), wanted))
                    self.assert_parted(point, divisor)

    def test_all_small_points_by_small_divisors(self):
        for point in SMALL_POINTS:
            for divisor in SMALL_POINTS:
                if divisor != (0, 0):
                    self.assert_parted(point, divisor)

    def test_points_and_divisors_of_any_size(self):
        for point in LARGE_POINTS + SMALL_POINTS[::5]:
            for divisor in DIVISORS:
                self.assert_parted(point, divisor)

    def test_products_leave_no_rest(self):
        for quotient in LARGE_POINTS + SMALL_POINTS[::5]:
            for divisor in DIVISORS:
                self.assertTrue(
                    parted(product(quotient, divisor), divisor) == (quotient, (0, 0)))

    def test_the_longest_rest_is_half_of_the_divisor(self):
        self.assertEqual(parted((1, 1), (2, 0)), ((1, 1), (-1, -1)))
        self.assertTrue(parted((HUGE, HUGE), (2 * HUGE, 0)) == ((1, 1), (-HUGE, -HUGE)))

    def test_no_quotient_by_the_origin(self):
        for point in POINTS:
            self.assert_refused(NoQuotient, parted, point, (0, 0))
        self.assert_refused(NoQuotient, parted, (0, 0), (0, 0))
        self.assert_refused(NoQuotient, parted, point=(1, 2), divisor=(0, 0))

    def test_no_point_comes_ahead_of_no_quotient(self):
        for thing in [None, 0, [0, 0], (0, 0, 0), (0, False), (0.0, 0)]:
            self.assert_refused(NoPoint, parted, thing, (0, 0))
            self.assert_refused(NoPoint, parted, (0, 0), thing)


class Divisors(Case):
    """Promise 5: whether a point divides another one."""

    def test_told_ones(self):
        for divisor, point, wanted in [
            ((2, 1), (5, 0), True), ((1, 2), (5, 0), True), ((2, 1), (1, 2), False),
            ((1, 1), (2, 0), True), ((1, 1), (3, 1), True), ((1, 1), (3, 2), False),
            ((2, 0), (4, 6), True), ((2, 0), (4, 5), False), ((3, 0), (3, 1), False),
            ((5, 0), (2, 1), False), ((3, 4), (25, 0), True), ((3, 4), (7, 24), False),
            ((3, 4), (-7, 24), True), ((2, 1), (3, 4), True), ((1, 2), (3, 4), False),
        ]:
            self.assertIs(divides(divisor, point), wanted)

    def test_small_points_by_all_small_products(self):
        for divisor in SMALL_POINTS:
            products = {product(divisor, (a, b)) for a in range(-7, 8) for b in range(-7, 8)}
            for point in SMALL_POINTS:
                self.assertIs(divides(divisor, point), point in products)

    def test_the_origin(self):
        self.assertIs(divides((0, 0), (0, 0)), True)
        for point in POINTS:
            self.assertIs(divides(point, (0, 0)), True)
            self.assertIs(divides((0, 0), point), point == (0, 0))

    def test_units_divide_all_and_only_units_divide_units(self):
        for unit in four_turns((1, 0)):
            for point in POINTS:
                self.assertIs(divides(unit, point), True)
                self.assertIs(divides(point, unit), size(point) == 1)

    def test_turns_divide_each_other(self):
        for point in POINTS:
            for turn in four_turns(point):
                self.assertIs(divides(point, turn), True)
                self.assertIs(divides(turn, point), True)

    def test_products_and_what_lies_beside_them(self):
        for divisor in DIVISORS:
            for point in LARGE_POINTS + SMALL_POINTS[::11]:
                whole = product(divisor, point)
                self.assertIs(divides(divisor, whole), True)
                self.assertIs(divides(point, whole), True)
                for unit in four_turns((1, 0)):
                    self.assertIs(divides(divisor, total(whole, unit)), size(divisor) == 1)


class CommonParts(Case):
    """Promise 6: the greatest common part."""

    def assert_common(self, one, other, wanted):
        part, first, second = common(one, other)
        self.assertTrue(part == wanted)
        self.assertTrue(total(product(one, first), product(other, second)) == part)
        for point in (part, first, second):
            self.assert_point(point)

    def upright_turn(self, point):
        return [turn for turn in four_turns(point) if stands_upright(turn)][0]

    def test_told_ones(self):
        for one, other, wanted in [
            ((5, 0), (3, 4), (2, 1)), ((5, 0), (4, 3), (1, 2)), ((2, 0), (1, 1), (1, 1)),
            ((4, 0), (6, 0), (2, 0)), ((3, 0), (5, 0), (1, 0)), ((2, 1), (1, 2), (1, 0)),
            ((10, 0), (3, 1), (3, 1)), ((-7, 1), (5, 5), (3, 1)), ((1, 0), (0, 0), (1, 0)),
            ((12, 0), (0, 18), (6, 0)), ((11, 3), (1, 8), (2, 1)), ((7, 0), (7, 0), (7, 0)),
        ]:
            self.assert_common(one, other, wanted)
            self.assert_common(other, one, wanted)

    def test_small_ones_by_all_that_divide_both(self):
        for one in SMALL_POINTS[::2]:
            for other in SMALL_POINTS[::3]:
                both = [point for point in SMALL_POINTS if point != (0, 0)
                        and self.leaves_none(one, point) and self.leaves_none(other, point)]
                part = common(one, other)[0]
                if one == other == (0, 0):
                    self.assertEqual(part, (0, 0))
                    continue
                self.assertTrue(stands_upright(part))
                self.assertIn(part, both)
                for point in both:
                    self.assertTrue(self.leaves_none(part, point))

    def leaves_none(self, point, divisor):
        exact = product(point, (divisor[0], -divisor[1]))
        return exact[0] % size(divisor) == 0 and exact[1] % size(divisor) == 0

    def test_known_parts_of_any_size_either_way_about(self):
        for one, other in APART:
            for part in PARTS:
                wanted = self.upright_turn(part)
                self.assert_common(product(one, part), product(other, part), wanted)
                self.assert_common(product(other, part), product(one, part), wanted)

    def test_long_ways_of_very_large_numbers(self):
        one, other, part = (7 ** 500, -11 ** 480), (13 ** 440, 3 ** 1040 + 1), (5 ** 90, -7 ** 80)
        apart = common(one, other)[0]
        wanted = self.upright_turn(product(apart, part))
        self.assert_common(product(one, part), product(other, part), wanted)

    def test_turns_have_the_same_part(self):
        for one, other in [((5, 0), (3, 4)), ((12, 4), (6, -8)), ((HUGE, 0), (0, 3 * HUGE)),
                           ((10 ** 40, 10 ** 40), (10 ** 30, 0)), ((3, 1), (0, 0))]:
            wanted = common(one, other)[0]
            self.assertTrue(stands_upright(wanted))
            for turn in four_turns(one):
                for other_turn in four_turns(other):
                    self.assert_common(turn, other_turn, wanted)
                    self.assert_common(other_turn, turn, wanted)

    def test_of_a_point_and_the_origin_its_upright_turn(self):
        for point in POINTS:
            wanted = self.upright_turn(point)
            self.assert_common(point, (0, 0), wanted)
            self.assert_common((0, 0), point, wanted)
            self.assert_common(point, point, wanted)

    def test_of_two_origins_the_origin(self):
        self.assert_common((0, 0), (0, 0), (0, 0))

    def test_of_a_unit_and_any_point_one(self):
        for unit in four_turns((1, 0)):
            for point in POINTS:
                self.assert_common(unit, point, (1, 0))
                self.assert_common(point, unit, (1, 0))

    def test_the_part_divides_both(self):
        for one in POINTS[::4]:
            for other in POINTS[::3] + LARGE_POINTS:
                part = common(one, other)[0]
                self.assert_common(one, other, part)
                self.assertTrue(stands_upright(part))
                if part != (0, 0):
                    self.assertTrue(self.leaves_none(one, part))
                    self.assertTrue(self.leaves_none(other, part))


if __name__ == "__main__":
    unittest.main()
