"""Tests of promises 7 and 8 and of the interface's section twosquares/parts.py."""

import unittest

from tests.beside import four_turns, primes_below, product, size, stands_upright
from tests.case import Case
from tests.things import HUGE, NO_POINTS, Named, Whole
from twosquares import parts
from twosquares.errors import NoNumber, NoPoint
from twosquares.parts import is_simple, parts_of

PRIMES = {prime: True for prime in primes_below(1000001)}

OUT_OF_BOUNDS = [
    (0, 0), (1000, 1), (1, 1000), (-1, -1000), (1001, 0), (0, -1001), (708, 708), (1000, 1000),
    (999999, 2), (1000000, 0), (2 ** 64, 0), (0, -2 ** 64), (HUGE, 1), (-HUGE, HUGE),
]

# Points whose lengths lie at, or close below, 1000000.
LONG_POINTS = [
    (1000, 0), (0, -1000), (600, 800), (-800, 600), (960, -280), (-352, -936), (999, 44),
    (707, 707), (-707, 707), (706, -707), (997, 0), (0, 991), (991, 0), (512, 512), (729, 0),
    (0, -625), (644, 765), (765, 644), (-644, 765), (999, 0), (875, 0), (31 * 31, 31), (13, 999),
]


def points_of_length(lowest, longest):
    """Answer all points with a length from lowest to longest."""
    reach = range(-int(longest ** 0.5) - 1, int(longest ** 0.5) + 2)
    return [(a, b) for a in reach for b in reach if lowest <= size((a, b)) <= longest]


def products_of_two(longest):
    """Answer all points up to a length that are a product of two that are longer than 1."""
    found = set()
    for one in points_of_length(2, longest // 2):
        for other in points_of_length(2, longest // size(one)):
            found.add(product(one, other))
    return found


def is_simple_by_its_length(point):
    """Tell whether a point is simple, by the last sentence of promise 7."""
    across, up = abs(point[0]), abs(point[1])
    if 0 in (across, up):
        return across + up in PRIMES and (across + up) % 4 == 3
    return size(point) in PRIMES


class Interface(Case):

    def test_names_and_arguments(self):
        self.assert_interface(parts, {"is_simple": "(point)", "parts_of": "(point)"})

    def test_arguments_by_name(self):
        self.assertIs(is_simple(point=(2, 1)), True)
        self.assertEqual(parts_of(point=(0, 2)), (0, [(1, 1), (1, 1)]))

    def test_kinds_of_the_answers(self):
        for point in [(1, 0), (0, 2), (-30, 30), (1000, 0), Named(3, 4), (Whole.THREE, Whole.FOUR)]:
            self.assertIs(type(is_simple(point)), bool)
            answer = parts_of(point)
            self.assertIs(type(answer), tuple)
            quarters, told = answer
            self.assert_number(quarters)
            self.assertIs(type(told), list)
            for part in told:
                self.assert_point(part)


class SimplePoints(Case):
    """Promise 7: which points are simple."""

    def test_by_the_words_of_the_promise(self):
        longest = 400
        products = products_of_two(longest)
        for point in points_of_length(1, longest):
            self.assertIs(is_simple(point), size(point) > 1 and point not in products)

    def test_units_are_not(self):
        for unit in four_turns((1, 0)):
            self.assertIs(is_simple(unit), False)

    def test_simple_ones_their_turns_and_mirrors(self):
        for a, b in [(1, 1), (1, 2), (2, 3), (1, 4), (4, 9), (644, 765), (3, 0), (7, 0), (11, 0),
                     (19, 0), (499, 0), (991, 0), (983, 0)]:
            for point in four_turns((a, b)) + four_turns((b, a)):
                self.assertIs(is_simple(point), True)
                self.assertIs(is_simple((point[0], -point[1])), True)

    def test_products_and_their_turns_are_not(self):
        for a, b in [(2, 0), (5, 0), (13, 0), (997, 0), (9, 0), (21, 0), (1, 3), (3, 3), (3, 4),
                     (6, 0), (6, 3), (0, 4), (7, 7), (15, 0), (600, 800), (1000, 0), (707, 707)]:
            for point in four_turns((a, b)) + four_turns((b, a)):
                self.assertIs(is_simple(point), False)

    def test_the_square_of_a_prime_on_an_axis_and_beside_it(self):
        # 25 is the length of (5, 0) and of (3, 4): both are products, and 49 has (7, 0) alone.
        for point in points_of_length(25, 25):
            self.assertIs(is_simple(point), False)
        self.assertEqual(sorted(points_of_length(49, 49)), sorted(four_turns((7, 0))))
        for point in points_of_length(49, 49):
            self.assertIs(is_simple(point), True)

    def test_lengths_up_to_1000000(self):
        for across in range(0, 1001, 13):
            for up in range(-1000, 1001, 37):
                if 1 <= size((across, up)) <= 1000000:
                    point = (across, up)
                    self.assertIs(is_simple(point), is_simple_by_its_length(point))
        for point in LONG_POINTS:
            self.assertIs(is_simple(point), is_simple_by_its_length(point))

    def test_lengths_1_and_1000000(self):
        self.assertIs(is_simple((0, -1)), False)
        for point in points_of_length(1000000, 1000000):
            self.assertIs(is_simple(point), False)

    def test_out_of_bounds(self):
        for point in OUT_OF_BOUNDS:
            for turn in four_turns(point):
                self.assert_refused(NoNumber, is_simple, turn)

    def test_no_points(self):
        for thing in NO_POINTS:
            self.assert_refused(NoPoint, is_simple, thing)


class Parts(Case):
    """Promise 8: each point as turns of a product of upright simple points."""

    def assert_parts(self, point):
        quarters, told = parts_of(point)
        whole = (1, 0)
        for part in told:
            self.assertTrue(stands_upright(part))
            self.assertTrue(is_simple_by_its_length(part))
            whole = product(whole, part)
        self.assertIn(quarters, (0, 1, 2, 3))
        self.assertEqual(four_turns(whole)[quarters], point)
        ranks = [(size(part), part[0]) for part in told]
        self.assertEqual(ranks, sorted(ranks))

    def test_told_ones(self):
        for point, wanted in [
            ((2, 0), (3, [(1, 1), (1, 1)])), ((5, 0), (3, [(1, 2), (2, 1)])),
            ((10, 0), (2, [(1, 1), (1, 1), (1, 2), (2, 1)])), ((9, 0), (0, [(3, 0), (3, 0)])),
            ((3, 4), (0, [(2, 1), (2, 1)])), ((-3, 4), (0, [(1, 2), (1, 2)])),
            ((4, 3), (3, [(1, 2), (1, 2)])), ((6, 0), (3, [(1, 1), (1, 1), (3, 0)])),
            ((21, 0), (0, [(3, 0), (7, 0)])), ((0, -7), (3, [(7, 0)])),
            ((1, 3), (0, [(1, 1), (2, 1)])), ((3, 1), (3, [(1, 1), (1, 2)])),
        ]:
            self.assertEqual(parts_of(point), wanted)

    def test_units_have_no_parts(self):
        for quarters, unit in enumerate(four_turns((1, 0))):
            self.assertEqual(parts_of(unit), (quarters, []))

    def test_simple_points_and_their_turns(self):
        for simple in [(1, 1), (1, 2), (2, 1), (3, 0), (7, 0), (2, 3), (3, 2), (991, 0),
                       (644, 765), (765, 644)]:
            for quarters, turn in enumerate(four_turns(simple)):
                self.assertEqual(parts_of(turn), (quarters, [simple]))

    def test_turns_of_products_with_parts_more_than_once(self):
        for told in [
            [(1, 1)] * 2, [(1, 1)] * 19, [(3, 0)] * 6, [(1, 2)] * 8, [(2, 1)] * 8,
            [(1, 2), (1, 2), (2, 1)], [(1, 2), (2, 1), (2, 1), (2, 1)], [(1, 1), (1, 2), (3, 0)],
            [(1, 1), (1, 1), (1, 2), (2, 1), (3, 0), (3, 0)], [(1, 2), (3, 0), (2, 3), (3, 2)],
            [(3, 0), (1, 4), (4, 1), (7, 0)], [(1, 6), (6, 1), (7, 0)], [(7, 0), (2, 7)],
        ]:
            whole = (1, 0)
            for part in told:
                whole = product(whole, part)
            for quarters, turn in enumerate(four_turns(whole)):
                self.assertEqual(parts_of(turn), (quarters, told))

    def test_rising_length_not_rising_prime(self):
        # (3, 0) has the length 9, so it stands behind (1, 2), but ahead of (2, 3).
        for told in [[(2, 1), (3, 0)], [(3, 0), (2, 3)], [(4, 5), (7, 0), (2, 7)]]:
            whole = (1, 0)
            for part in told:
                whole = product(whole, part)
            self.assertEqual(parts_of(whole), (0, told))

    def test_points_on_both_axes(self):
        for far in [*range(1, 120), *range(120, 1000, 17), 997, 999, 1000]:
            for point in four_turns((far, 0)):
                self.assert_parts(point)

    def test_all_short_points(self):
        for point in points_of_length(1, 700):
            self.assert_parts(point)

    def test_lengths_up_to_1000000(self):
        for across in range(-1000, 1001, 41):
            for up in range(-1000, 1001, 53):
                if 1 <= size((across, up)) <= 1000000:
                    self.assert_parts((across, up))
        for point in LONG_POINTS + points_of_length(1000000, 1000000):
            self.assert_parts(point)

    def test_a_told_list_is_the_askers_own(self):
        for point in [(1, 0), (2, 0), (0, 5), (-30, 30), (991, 0), (1000, 0)]:
            quarters, told = parts_of(point)
            kept = list(told)
            told.append((9, 9))
            told[0] = (8, 8)
            self.assertEqual(parts_of(point), (quarters, kept))
            self.assertIs(is_simple((1, 1)), True)
            self.assertIsNot(parts_of(point)[1], parts_of(point)[1])

    def test_a_told_list_stays_while_others_are_asked_for(self):
        _, told = parts_of((10, 0))
        parts_of((600, 800))
        parts_of((10, 0))[1].clear()
        self.assertEqual(told, [(1, 1), (1, 1), (1, 2), (2, 1)])

    def test_out_of_bounds(self):
        for point in OUT_OF_BOUNDS:
            for turn in four_turns(point):
                self.assert_refused(NoNumber, parts_of, turn)

    def test_no_points(self):
        for thing in NO_POINTS:
            self.assert_refused(NoPoint, parts_of, thing)


if __name__ == "__main__":
    unittest.main()
