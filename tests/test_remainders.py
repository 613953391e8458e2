import unittest

from helper import NO_PRIMES, PRIMES, refusal
from straysign.errors import BadSign, NotPrime
from straysign.remainders import (
    added, check_prime, check_signs, check_signs_or_gaps, inverse, is_prime, is_sign, lessened, multiplied, power,
)


class Primes(unittest.TestCase):
    def test_every_number_about_the_bounds(self):
        for number in range(-1100, 1200):
            self.assertIs(is_prime(number), number in PRIMES, number)

    def test_the_ends(self):
        self.assertEqual((PRIMES[0], PRIMES[-1], len(PRIMES)), (2, 997, 168))
        self.assertTrue(is_prime(2) and is_prime(3) and is_prime(997))

    def test_what_is_none_is_refused(self):
        for number in NO_PRIMES:
            self.assertFalse(is_prime(number), number)
            self.assertIs(refusal(check_prime, number), NotPrime, number)

    def test_a_prime_is_not_refused(self):
        for prime in PRIMES:
            self.assertIsNone(refusal(check_prime, prime), prime)


class Signs(unittest.TestCase):
    def test_from_nought_to_one_below_the_prime(self):
        for prime in (2, 3, 7, 997):
            for number in range(-3, prime + 3):
                self.assertIs(is_sign(prime, number), number in range(prime), (prime, number))

    def test_a_number_that_is_no_sign_is_refused(self):
        for bad in (-1, 7, 8, 10**99, -(10**99)):
            for signs in ([bad], [0, bad], [bad, 6], [1, bad, 2]):
                self.assertIs(refusal(check_signs, 7, signs), BadSign, signs)
                self.assertIs(refusal(check_signs_or_gaps, 7, signs + [None]), BadSign, signs)

    def test_a_gap_is_refused_where_no_gap_may_be_alone(self):
        for signs in ([None], [0, None], [None, 6], [None, None]):
            self.assertIs(refusal(check_signs, 7, signs), BadSign, signs)
            self.assertIsNone(refusal(check_signs_or_gaps, 7, signs), signs)

    def test_signs_are_not_refused(self):
        for signs in ([], [0], [6], list(range(7))):
            self.assertIsNone(refusal(check_signs, 7, signs))
            self.assertIsNone(refusal(check_signs_or_gaps, 7, signs))


class Reckoning(unittest.TestCase):
    def test_added_lessened_multiplied(self):
        for prime in (2, 3, 5, 13):
            for one in range(prime):
                for two in range(prime):
                    self.assertEqual(added(prime, one, two), (one + two) % prime)
                    self.assertEqual(lessened(prime, one, two), (one - two) % prime)
                    self.assertEqual(multiplied(prime, one, two), one * two % prime)

    def test_never_below_nought(self):
        self.assertEqual(lessened(7, 2, 5), 4)
        self.assertEqual(lessened(7, 0, 6), 1)
        self.assertEqual(lessened(997, 0, 996), 1)
        self.assertEqual(added(7, 3, 4), 0)
        self.assertEqual(multiplied(997, 996, 996), 1)

    def test_power(self):
        for prime in (2, 3, 11, 997):
            for sign in range(min(prime, 12)):
                for times in range(14):
                    self.assertEqual(power(prime, sign, times), sign**times % prime)

    def test_a_sign_times_its_inverse_is_one(self):
        for prime in PRIMES:
            for sign in list(range(1, min(prime, 20))) + [prime - 1]:
                own = inverse(prime, sign)
                self.assertTrue(is_sign(prime, own))
                self.assertEqual(multiplied(prime, sign, own), 1, (prime, sign))
