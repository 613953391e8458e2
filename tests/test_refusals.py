"""What is refused, in which order, and that nothing handed in is changed."""

import unittest

from helper import NO_PRIMES, refusal
from straysign.errors import BadLength, BadSign, NotPrime
from straysign.making import apart, filled, is_made, made

GREAT = 10**99


class NoPrime(unittest.TestCase):
    def test_ahead_of_every_other_refusal(self):
        for prime in NO_PRIMES:
            for signs in ([1], [0, 1, 2], [None], [-1], [GREAT], []):
                for number in (-1, 0, 1, 2, 5, GREAT):
                    for call in (made, is_made, filled):
                        self.assertIs(refusal(call, prime, signs, number), NotPrime, (call, prime, signs, number))


class NoSign(unittest.TestCase):
    def test_a_number_that_is_no_sign_ahead_of_any_length(self):
        for signs in ([-1], [7], [0, 7, 1], [1, 2, -1], [GREAT], [-GREAT, 1], [0] * 8 + [7]):
            for number in (-GREAT, -1, 0, 1, 2, 3, 7, 8, GREAT):
                for call in (made, is_made, filled):
                    self.assertIs(refusal(call, 7, signs, number), BadSign, (call, signs, number))

    def test_a_gap_where_no_gap_may_be(self):
        for signs in ([None], [1, None], [None, 1, 2], [None] * 9):
            for number in (-1, 0, 1, 2, 3, 7, 8):
                for call in (made, is_made):
                    self.assertIs(refusal(call, 7, signs, number), BadSign, (call, signs, number))

    def test_a_bad_sign_beside_gaps_or_behind_the_first_known_signs(self):
        for signs in ([None, 7], [None, -1, None], [1, 2, None, 7]):
            for size in (0, 1, 2, 5):
                self.assertIs(refusal(filled, 7, signs, size), BadSign, (signs, size))

    def test_the_least_and_the_greatest_sign_are_none_of_these(self):
        for prime in (2, 3, 7, 997):
            for call in (made, is_made, filled):
                self.assertIsNone(refusal(call, prime, [0, prime - 1], 2))
                self.assertIs(refusal(call, prime, [0, prime], 2), BadSign)
                self.assertIs(refusal(call, prime, [-1, 0], 2), BadSign)


class NoLength(unittest.TestCase):
    def test_made(self):
        for word, length in (([], 0), ([], 1), ([], -1), ([], 7), ([1, 2], 1), ([1, 2], 0), ([1, 2], -2), ([1, 2], 8),
                             ([1], GREAT), ([1], -GREAT), ([0] * 8, 8), ([0] * 8, 7), ([0] * 1000, 1000)):
            self.assertIs(refusal(made, 7, word, length), BadLength, (word, length))

    def test_the_ends_of_the_length_are_not_refused(self):
        for prime, word in ((2, [1]), (2, [1, 0]), (3, [2]), (7, [1, 2]), (997, [5])):
            self.assertIsNone(refusal(made, prime, word, len(word)))
            self.assertIsNone(refusal(made, prime, word, prime))
            self.assertIs(refusal(made, prime, word, len(word) - 1), BadLength)
            self.assertIs(refusal(made, prime, word, prime + 1), BadLength)

    def test_is_made_and_filled(self):
        for signs, size in (([], 0), ([], 1), ([], -1), ([1, 2], 0), ([1, 2], -1), ([1, 2], -GREAT), ([1, 2], 3),
                            ([1, 2], GREAT), ([0] * 8, 1), ([0] * 8, 8), ([0] * 8, 9), ([0] * 1000, 3)):
            for call in (is_made, filled):
                self.assertIs(refusal(call, 7, signs, size), BadLength, (call, signs, size))

    def test_the_ends_of_the_size_are_not_refused(self):
        for prime, length in ((2, 1), (2, 2), (3, 3), (7, 4), (7, 7), (31, 31)):
            for call in (is_made, filled):
                self.assertIsNone(refusal(call, prime, [1] * length, 1))
                self.assertIsNone(refusal(call, prime, [1] * length, length))
                self.assertIs(refusal(call, prime, [1] * length, 0), BadLength)
                self.assertIs(refusal(call, prime, [1] * length, length + 1), BadLength)
                self.assertIs(refusal(call, prime, [1] * (prime + 1), 1), BadLength)

    def test_filled_counts_gaps_in_the_length_and_refuses_ahead_of_none(self):
        self.assertIs(refusal(filled, 7, [None] * 8, 1), BadLength)
        self.assertIs(refusal(filled, 7, [None, None], 3), BadLength)
        self.assertIs(refusal(filled, 7, [None, None], 0), BadLength)
        self.assertIsNone(refusal(filled, 7, [None] * 7, 7))


class HandedIn(unittest.TestCase):
    def test_the_same_behind_each_call(self):
        calls = [(made, 7, 7), (made, 7, 3), (made, 7, 9), (made, 4, 3),
                 (is_made, 7, 2), (is_made, 7, 0), (is_made, 4, 2),
                 (filled, 7, 2), (filled, 7, 3), (filled, 7, 9), (filled, 4, 2)]
        for call, prime, number in calls:
            for signs in ([1, 4, 2], [3, 5, 0], [1, None, 2], [None, None, 6], [1, 7, None], [-1, 0, 0], []):
                handed = list(signs)
                refusal(call, prime, handed, number)
                self.assertEqual(handed, signs)

    def test_the_same_behind_apart(self):
        one, two = [1, None, 3], [1, 2, None]
        apart(one, two)
        self.assertEqual((one, two), ([1, None, 3], [1, 2, None]))

    def test_the_same_answer_each_time(self):
        signs = [None, 4, 2, None, 1]
        self.assertEqual(filled(7, signs, 2), filled(7, signs, 2))
        self.assertEqual(made(7, [1, 4], 6), made(7, [1, 4], 6))
