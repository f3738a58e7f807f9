"""Tests of promise 7 and of the interface's section twosquares/primes.py."""

import unittest
from math import prod

from tests.beside import primes_below, size
from tests.case import Case
from tests.things import HUGE, NO_NUMBERS, Whole
from twosquares import primes
from twosquares.errors import NoNumber
from twosquares.primes import point_of, primes_of

PRIMES = primes_below(1000100)

OUT_OF_BOUNDS = [
    0, -1, -2, -5, -1000000, 1000001, 1000003, 1000033, 2000000, 2 ** 64, -2 ** 64, HUGE, -HUGE,
]


class Interface(Case):

    def test_names_and_arguments(self):
        self.assert_interface(primes, {"primes_of": "(number)", "point_of": "(prime)"})

    def test_arguments_by_name(self):
        self.assertEqual(primes_of(number=12), [2, 2, 3])
        self.assertEqual(point_of(prime=13), (2, 3))

    def test_kinds_of_the_answers(self):
        for number in [1, 2, 12, 999983, 1000000, Whole.THREE, Whole.FOUR]:
            told = primes_of(number)
            self.assertIs(type(told), list)
            for prime in told:
                self.assert_number(prime)
        for prime in [2, 5, 999961]:
            self.assert_point(point_of(prime))


class PrimesOfNumbers(Case):

    def test_told_ones(self):
        for number, wanted in [
            (1, []), (2, [2]), (3, [3]), (4, [2, 2]), (5, [5]), (6, [2, 3]), (8, [2, 2, 2]),
            (9, [3, 3]), (12, [2, 2, 3]), (30, [2, 3, 5]), (49, [7, 7]), (97, [97]),
            (1001, [7, 11, 13]), (1024, [2] * 10), (59049, [3] * 10), (524288, [2] * 19),
            (510510, [2, 3, 5, 7, 11, 13, 17]), (994009, [997, 997]), (999983, [999983]),
            (999999, [3, 3, 3, 7, 11, 13, 37]), (999998, [2, 31, 127, 127]),
            (1000000, [2] * 6 + [5] * 6), (999958, [2, 499979]), (987027, [3, 329009]),
        ]:
            self.assertEqual(primes_of(number), wanted)

    def test_numbers_from_1_on_up_to_1000000(self):
        known = {prime: True for prime in PRIMES}
        for number in [*range(1, 5000), *range(5000, 1000000, 331), *range(999500, 1000001)]:
            told = primes_of(number)
            self.assertEqual(prod(told), number)
            self.assertEqual(told, sorted(told))
            for prime in told:
                self.assertIn(prime, known)

    def test_primes_and_their_squares(self):
        for prime in PRIMES[::97]:
            if prime <= 1000000:
                self.assertEqual(primes_of(prime), [prime])
        for prime in PRIMES:
            if prime * prime > 1000000:
                break
            self.assertEqual(primes_of(prime * prime), [prime, prime])

    def test_out_of_bounds(self):
        for number in OUT_OF_BOUNDS:
            self.assert_refused(NoNumber, primes_of, number)

    def test_no_numbers(self):
        for thing in NO_NUMBERS:
            self.assert_refused(NoNumber, primes_of, thing)
            self.assert_refused(NoNumber, primes_of, number=thing)

    def test_a_told_list_is_the_askers_own(self):
        for number in [1, 2, 12, 1000000]:
            told = primes_of(number)
            kept = list(told)
            told.append(7)
            told[0] = 8
            self.assertEqual(primes_of(number), kept)
            self.assertIsNot(primes_of(number), primes_of(number))

    def test_a_told_list_stays_while_others_are_asked_for(self):
        told = primes_of(12)
        primes_of(1000000)
        primes_of(12).clear()
        self.assertEqual(told, [2, 2, 3])


class PointsOfPrimes(Case):

    def assert_point_of(self, prime):
        a, b = point_of(prime)
        self.assertEqual(size((a, b)), prime)
        self.assertTrue(0 < a <= b)

    def test_told_ones(self):
        for prime, wanted in [
            (2, (1, 1)), (5, (1, 2)), (13, (2, 3)), (17, (1, 4)), (29, (2, 5)), (37, (1, 6)),
            (41, (4, 5)), (53, (2, 7)), (97, (4, 9)), (101, (1, 10)), (10009, (3, 100)),
            (999961, (644, 765)),
        ]:
            self.assertEqual(point_of(prime), wanted)

    def test_primes_that_leave_1_by_4(self):
        leaving = [prime for prime in PRIMES if prime % 4 == 1 and prime <= 1000000]
        self.assertEqual(leaving[-1], 999961)
        for prime in leaving[:1000] + leaving[1000::101] + leaving[-50:]:
            self.assert_point_of(prime)

    def test_primes_that_leave_3_by_4(self):
        leaving = [prime for prime in PRIMES if prime % 4 == 3]
        for prime in leaving[:500] + leaving[500::101] + leaving[-50:]:
            self.assert_refused(NoNumber, point_of, prime)

    def test_what_is_no_prime(self):
        known = {prime: True for prime in PRIMES}
        for number in [*range(-10, 3000), *range(3000, 1000000, 997), *range(999900, 1000001)]:
            if number not in known:
                self.assert_refused(NoNumber, point_of, number)

    def test_out_of_bounds(self):
        # 1000033 is a prime that leaves 1 by 4, but beyond the bound.
        self.assertIn(1000033, PRIMES)
        for number in OUT_OF_BOUNDS:
            self.assert_refused(NoNumber, point_of, number)

    def test_no_numbers(self):
        for thing in NO_NUMBERS:
            self.assert_refused(NoNumber, point_of, thing)
            self.assert_refused(NoNumber, point_of, prime=thing)


if __name__ == "__main__":
    unittest.main()
