"""What is refused, in which order, and that nothing handed in is changed."""

import unittest

from helper import NO_PRIMES, refusal
from straysign.errors import BadLength, BadSign, NotMended, NotPrime
from straysign.making import apart, filled, is_made, made
from straysign.mending import mended, read
from straysign.notes import line_read, shown
from straysign.sheets import dealt, laid, taken_up

GREAT = 10**99


class NoPrime(unittest.TestCase):
    def test_ahead_of_every_other_refusal(self):
        for prime in NO_PRIMES:
            for signs in ([1], [0, 1, 2], [None], [-1], [GREAT], []):
                for number in (-1, 0, 1, 2, 5, GREAT):
                    for call in (made, is_made, filled, mended, read):
                        self.assertIs(refusal(call, prime, signs, number), NotPrime, (call, prime, signs, number))
                    self.assertIs(refusal(laid, prime, [signs, [1]], number), NotPrime)
                    for count in (-1, 0, 1, 2, GREAT):
                        self.assertIs(refusal(taken_up, prime, signs, count, number), NotPrime)


class NoSign(unittest.TestCase):
    def test_a_number_that_is_no_sign_ahead_of_any_length(self):
        for signs in ([-1], [7], [0, 7, 1], [1, 2, -1], [GREAT], [-GREAT, 1], [0] * 8 + [7]):
            for number in (-GREAT, -1, 0, 1, 2, 3, 7, 8, GREAT):
                for call in (made, is_made, filled, mended, read):
                    self.assertIs(refusal(call, 7, signs, number), BadSign, (call, signs, number))

    def test_a_gap_where_no_gap_may_be(self):
        for signs in ([None], [1, None], [None, 1, 2], [None] * 9):
            for number in (-1, 0, 1, 2, 3, 7, 8):
                for call in (made, is_made):
                    self.assertIs(refusal(call, 7, signs, number), BadSign, (call, signs, number))

    def test_a_bad_sign_beside_gaps_or_behind_the_first_known_signs(self):
        for signs in ([None, 7], [None, -1, None], [1, 2, None, 7]):
            for size in (0, 1, 2, 5):
                for call in (filled, mended, read):
                    self.assertIs(refusal(call, 7, signs, size), BadSign, (call, signs, size))

    def test_the_least_and_the_greatest_sign_are_none_of_these(self):
        for prime in (2, 3, 7, 997):
            for call in (made, is_made, filled, mended, read):
                self.assertIsNone(refusal(call, prime, [0, prime - 1], 2))
                self.assertIs(refusal(call, prime, [0, prime], 2), BadSign)
                self.assertIs(refusal(call, prime, [-1, 0], 2), BadSign)


class NoLength(unittest.TestCase):
    def test_made(self):
        for word, length in (([], 0), ([], 1), ([], -1), ([], 7), ([1, 2], 1), ([1, 2], 0), ([1, 2], -2), ([1, 2], 8),
                             ([1], GREAT), ([1], -GREAT), ([0] * 8, 8), ([0] * 8, 7), ([0] * 1000, 1000)):
            self.assertIs(refusal(made, 7, word, length), BadLength, (word, length))

    def test_the_ends_of_the_length_are_not_refused(self):
        for prime, word in ((2, [1]), (2, [1, 0]), (3, [2]), (7, [1, 2]), (997, [5])):
            self.assertIsNone(refusal(made, prime, word, len(word)))
            self.assertIsNone(refusal(made, prime, word, prime))
            self.assertIs(refusal(made, prime, word, len(word) - 1), BadLength)
            self.assertIs(refusal(made, prime, word, prime + 1), BadLength)

    def test_where_signs_and_a_size_are_handed_in(self):
        for signs, size in (([], 0), ([], 1), ([], -1), ([1, 2], 0), ([1, 2], -1), ([1, 2], -GREAT), ([1, 2], 3),
                            ([1, 2], GREAT), ([0] * 8, 1), ([0] * 8, 8), ([0] * 8, 9), ([0] * 1000, 3)):
            for call in (is_made, filled, mended, read):
                self.assertIs(refusal(call, 7, signs, size), BadLength, (call, signs, size))

    def test_the_ends_of_the_size_are_not_refused(self):
        for prime, length in ((2, 1), (2, 2), (3, 3), (7, 4), (7, 7), (31, 31)):
            for call in (is_made, filled, mended, read):
                self.assertIsNone(refusal(call, prime, [1] * length, 1))
                self.assertIsNone(refusal(call, prime, [1] * length, length))
                self.assertIs(refusal(call, prime, [1] * length, 0), BadLength)
                self.assertIs(refusal(call, prime, [1] * length, length + 1), BadLength)
                self.assertIs(refusal(call, prime, [1] * (prime + 1), 1), BadLength)

    def test_gaps_count_in_the_length_and_too_few_known_signs_come_behind(self):
        for call, behind in ((filled, None), (mended, NotMended), (read, NotMended)):
            self.assertIs(refusal(call, 7, [None] * 8, 1), BadLength)
            self.assertIs(refusal(call, 7, [None, None], 3), BadLength)
            self.assertIs(refusal(call, 7, [None, None], 0), BadLength)
            self.assertIs(refusal(call, 7, [None] * 7, 7), behind)


class NoMending(unittest.TestCase):
    def test_behind_all_other_refusals(self):
        for call in (mended, read):
            self.assertIs(refusal(call, 8, [0, 1, 2, 3, None], 4), NotPrime)
            self.assertIs(refusal(call, 7, [0, 0, 0, 7, 1], 4), BadSign)
            self.assertIs(refusal(call, 7, [None, None, 7], 2), BadSign)
            self.assertIs(refusal(call, 7, [0, 0, 0, 0, 1], 0), BadLength)
            self.assertIs(refusal(call, 7, [0, 0, 0, 0, 0, 0, 0, 1], 7), BadLength)
            self.assertIs(refusal(call, 7, [None] * 8, 7), BadLength)
            self.assertIs(refusal(call, 7, [0, 0, 0, 0, 1], 4), NotMended)
            self.assertIs(refusal(call, 7, [None, None, None], 2), NotMended)


class WordByWord(unittest.TestCase):
    def test_laid(self):
        good, bad_sign, gap, too_long, empty = [1, 2], [1, 7], [None], [0, 1, 2, 3], []
        for length, words, expected in ((3, [good, bad_sign], BadSign), (3, [good, gap], BadSign),
                                        (3, [good, too_long], BadLength), (3, [empty], BadLength),
                                        (3, [too_long, bad_sign], BadLength), (3, [bad_sign, too_long], BadSign),
                                        (3, [empty, bad_sign], BadLength), (3, [gap, empty], BadSign),
                                        (3, [good, too_long, gap], BadLength), (3, [good, gap, too_long], BadSign),
                                        (1, [good, bad_sign], BadLength), (1, [bad_sign, good], BadSign),
                                        (8, [good, bad_sign], BadLength), (8, [bad_sign, good], BadSign),
                                        (GREAT, [good], BadLength), (-GREAT, [good, gap], BadLength),
                                        (-1, [[7] * 9, good], BadSign), (0, [empty], BadLength)):
            self.assertIs(refusal(laid, 7, words, length), expected, (words, length))

    def test_the_ends_of_the_length_are_not_refused_by_laid(self):
        self.assertIsNone(refusal(laid, 7, [[1, 2], [3, 4]], 2))
        self.assertIsNone(refusal(laid, 7, [[1, 2], [3, 4]], 7))
        self.assertIs(refusal(laid, 7, [[1, 2], [3]], 1), BadLength)
        self.assertIs(refusal(laid, 7, [[1, 2], [3]], 8), BadLength)

    def test_a_bad_count_behind_no_prime_alone(self):
        for count in (0, -1, 4, GREAT):
            self.assertIs(refusal(taken_up, 7, [7, -1, None], count, 0), BadLength)
            self.assertIs(refusal(taken_up, 9, [7, -1, None], count, 0), NotPrime)

    def test_taken_up(self):
        good, bad_sign, torn, empty = [1, 2, 3], [1, 2, 7], [1, 2, 4], [None, None, 1]
        for words, expected in (([good, good], None), ([good, bad_sign], BadSign), ([good, torn], NotMended),
                                ([good, empty], NotMended), ([torn, bad_sign], NotMended), ([bad_sign, torn], BadSign),
                                ([empty, bad_sign], NotMended), ([bad_sign, empty], BadSign),
                                ([good, torn, bad_sign], NotMended), ([good, bad_sign, torn], BadSign)):
            signs = [word[place] for place in range(3) for word in words]
            self.assertIs(refusal(taken_up, 7, signs, len(words), 2), expected, words)

    def test_taken_up_and_lengths(self):
        # The size is bad for each word, so that only the first word's signs go ahead of it.
        for size in (-GREAT, -1, 0, 4, GREAT):
            self.assertIs(refusal(taken_up, 7, [1, 7, 2, 7, 3, 7], 2, size), BadLength)
            self.assertIs(refusal(taken_up, 7, [7, 1, 7, 2, 7, 3], 2, size), BadSign)
            self.assertIs(refusal(taken_up, 7, [None] * 6, 2, size), BadLength)
        self.assertIs(refusal(taken_up, 2, [0, 0, 0, 0, 1, 1], 2, 1), BadLength)
        self.assertIs(refusal(taken_up, 2, [0, 0, 2, 0, 1, 1], 2, 1), BadSign)
        self.assertIs(refusal(taken_up, 2, [0, 2, 0, 0, 1, 1], 2, 1), BadLength)


class HandedIn(unittest.TestCase):
    def test_the_same_behind_each_call(self):
        calls = [(made, 7, 7), (made, 7, 3), (made, 7, 9), (made, 4, 3),
                 (is_made, 7, 2), (is_made, 7, 0), (is_made, 4, 2),
                 (filled, 7, 2), (filled, 7, 3), (filled, 7, 9), (filled, 4, 2),
                 (mended, 7, 1), (mended, 7, 2), (mended, 7, 3), (mended, 7, 9), (mended, 4, 2),
                 (read, 7, 1), (read, 7, 2), (read, 7, 3), (read, 7, 9), (read, 4, 2)]
        for call, prime, number in calls:
            for signs in ([1, 4, 2], [3, 5, 0], [3, 3, 0], [1, None, 2], [None, None, 6], [1, 7, None], [-1, 0, 0],
                          []):
                handed = list(signs)
                refusal(call, prime, handed, number)
                self.assertEqual(handed, signs)

    def test_the_same_behind_apart(self):
        one, two = [1, None, 3], [1, 2, None]
        apart(one, two)
        self.assertEqual((one, two), ([1, None, 3], [1, 2, None]))

    def test_the_same_behind_each_call_on_sheets_and_lines(self):
        for prime in (4, 7):
            for length in (-1, 2, 3, 7, 8):
                for words in ([], [[1, 2]], [[1, 2], [3, 4]], [[1], [2, 3, 4]], [[1, 7], [2]], [[], [1]], [[None]]):
                    handed = [list(word) for word in words]
                    refusal(laid, prime, handed, length)
                    self.assertEqual(handed, words)
            for signs in ([1, 4, 2, 4, 3, 4], [1, 4, 2, 4, 3, 5], [None, 0, 1, None, 2, None], [1, 7, 2, 1, 3, 1], []):
                for count in (-1, 0, 1, 2, 3, 4, 6):
                    handed = list(signs)
                    for size in (0, 1, 2, 3):
                        refusal(taken_up, prime, handed, count, size)
                    refusal(dealt, handed, count)
                    shown(handed)
                    self.assertEqual(handed, signs)

    def test_what_is_answered_is_not_what_was_handed_in(self):
        signs = [3, 5, 7, 9]
        row, wrong = mended(11, signs, 4)
        wrong.append(1)
        row.append(1)
        read(11, signs, 4).append(1)
        taken_up(11, signs, 1, 4)[0].append(1)
        dealt(signs, 1)[0].append(1)
        words = [[3, 5]]
        laid(11, words, 2).append(1)
        self.assertEqual((signs, words), ([3, 5, 7, 9], [[3, 5]]))

    def test_the_same_answer_each_time(self):
        signs = [None, 4, 2, None, 1]
        self.assertEqual(filled(7, signs, 2), filled(7, signs, 2))
        self.assertEqual(made(7, [1, 4], 6), made(7, [1, 4], 6))
        self.assertEqual(mended(7, [1, 4, 3, 3], 2), mended(7, [1, 4, 3, 3], 2))
        self.assertEqual(line_read("1 ? 2"), line_read("1 ? 2"))
