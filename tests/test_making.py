import unittest
from itertools import combinations

from helper import all_made, plain_filled, plain_made, some_word, spoiled, words
from straysign.making import apart, filled, is_made, made

# A prime, a size and a length each: small and greater primes, the length the size and the length the prime.
SHAPES = [(2, 1, 1), (2, 1, 2), (2, 2, 2), (3, 1, 3), (3, 2, 2), (3, 2, 3), (3, 3, 3), (5, 2, 5), (7, 3, 7),
          (13, 4, 13), (29, 6, 29), (31, 16, 31), (101, 16, 39), (257, 1, 24), (997, 16, 16), (997, 16, 39),
          (997, 2, 25)]


class Made(unittest.TestCase):
    def test_words_worked_out_by_hand(self):
        self.assertEqual(made(11, [3, 5], 4), [3, 5, 7, 9])
        self.assertEqual(made(7, [3, 5], 7), [3, 5, 0, 2, 4, 6, 1])
        self.assertEqual(made(11, [0, 1, 4], 11), [0, 1, 4, 9, 5, 3, 3, 5, 9, 4, 1])
        self.assertEqual(made(997, [0, 1, 4], 26), [place * place for place in range(26)])
        self.assertEqual(made(5, [4], 5), [4, 4, 4, 4, 4])

    def test_the_primes_two_and_three(self):
        self.assertEqual(made(2, [0], 2), [0, 0])
        self.assertEqual(made(2, [1], 2), [1, 1])
        self.assertEqual(made(2, [1, 0], 2), [1, 0])
        self.assertEqual(made(3, [2, 1], 3), [2, 1, 0])
        self.assertEqual(made(3, [0, 2], 3), [0, 2, 1])

    def test_the_greatest_prime(self):
        self.assertEqual(made(997, [996, 995], 25), list(range(996, 971, -1)))
        self.assertEqual(made(997, [1, 2], 997), list(range(1, 997)) + [0])

    def test_the_length_is_the_size(self):
        for prime, size in ((2, 1), (2, 2), (3, 3), (7, 7), (997, 16)):
            word = some_word(prime, size, prime)
            self.assertEqual(made(prime, word, size), word)

    def test_by_the_one_curve_that_fits(self):
        for prime, size in ((2, 1), (2, 2), (3, 2), (5, 2), (5, 3)):
            rows = all_made(prime, size, prime)
            for word in words(prime, size):
                fitting = [row for row in rows if row[:size] == word]
                for length in range(size, prime + 1):
                    self.assertEqual([made(prime, word, length)], [row[:length] for row in fitting])

    def test_each_shape(self):
        for prime, size, length in SHAPES:
            for seed in range(5):
                word = some_word(prime, size, seed)
                answer = made(prime, word, length)
                self.assertEqual(answer[:size], word)
                self.assertEqual(len(answer), length)
                self.assertEqual(answer, plain_made(prime, word, length))

    def test_the_answer_is_a_list_of_its_own(self):
        word = [1, 2, 3]
        answer = made(7, word, 3)
        self.assertIsInstance(answer, list)
        answer[0] = 6
        self.assertEqual(word, [1, 2, 3])


class IsMade(unittest.TestCase):
    def test_made_words_are_told_as_made(self):
        for prime, size, length in SHAPES:
            for seed in range(3):
                self.assertIs(is_made(prime, made(prime, some_word(prime, size, seed), length), size), True)

    def test_one_sign_off_at_any_place_is_told_as_not_made(self):
        for prime, size, length in SHAPES:
            if length > size:
                signs = made(prime, some_word(prime, size, 1), length)
                for place in range(length):
                    self.assertIs(is_made(prime, spoiled(prime, signs, [place]), size), False)

    def test_every_list_of_signs_over_some_small_primes(self):
        for prime, size, length in ((2, 1, 2), (3, 1, 3), (3, 2, 3), (5, 2, 4), (5, 3, 4)):
            rows = all_made(prime, size, length)
            for signs in words(prime, length):
                self.assertIs(is_made(prime, signs, size), signs in rows)

    def test_the_size_is_what_counts(self):
        squares = made(11, [0, 1, 4], 8)
        self.assertEqual([is_made(11, squares, size) for size in range(1, 9)],
                         [False, False, True, True, True, True, True, True])

    def test_any_signs_are_a_made_word_of_their_own_length(self):
        self.assertIs(is_made(7, [6, 0, 3], 3), True)
        self.assertIs(is_made(2, [1], 1), True)


class Apart(unittest.TestCase):
    def test_how_many_places(self):
        self.assertEqual(apart([1, 2, 3], [1, 2, 3]), 0)
        self.assertEqual(apart([1, 2, 3], [3, 2, 1]), 2)
        self.assertEqual(apart([1, 2, 3], [4, 5, 6]), 3)
        self.assertEqual(apart([0], [1]), 1)
        self.assertEqual(apart([0] * 1000, [0] * 999 + [1]), 1)

    def test_gaps(self):
        self.assertEqual(apart([None, 2], [None, 2]), 0)
        self.assertEqual(apart([None, 2], [0, None]), 2)
        self.assertEqual(apart([0, None, 5], [None, None, 5]), 1)

    def test_it_refuses_nothing(self):
        self.assertEqual(apart([], []), 0)
        self.assertEqual(apart([-1, 10**99, None], [-1, 10**99 + 1, -5]), 2)

    def test_made_words_are_apart_at_more_places_than_the_length_less_the_size(self):
        for prime, size in ((2, 1), (2, 2), (3, 1), (3, 2), (3, 3), (5, 1), (5, 2), (7, 2)):
            for length in range(size, prime + 1):
                for one, two in combinations([made(prime, word, length) for word in words(prime, size)], 2):
                    self.assertGreater(apart(one, two), length - size)

    def test_it_can_be_just_one_place_more(self):
        self.assertEqual(apart(made(7, [0, 0, 0], 7), made(7, [0, 0, 1], 7)), 5)


class Filled(unittest.TestCase):
    def test_by_hand(self):
        self.assertEqual(filled(11, [None, 5, None, 9], 2), [3, 5, 7, 9])
        self.assertEqual(filled(7, [None, None, 4], 1), [4, 4, 4])
        self.assertEqual(filled(2, [None, 1], 1), [1, 1])
        self.assertEqual(filled(3, [None, 1, 0], 2), [2, 1, 0])

    def test_any_signs_as_many_as_the_size_tell_all_of_a_made_word(self):
        for prime, size, length in ((2, 1, 2), (2, 2, 2), (3, 2, 3), (5, 2, 5), (7, 3, 7), (13, 4, 9), (997, 3, 12)):
            for seed in range(4):
                signs = made(prime, some_word(prime, size, seed), length)
                for places in combinations(range(length), size):
                    left = [sign if place in places else None for place, sign in enumerate(signs)]
                    self.assertEqual(filled(prime, left, size), signs)

    def test_with_no_gaps_and_with_more_known_signs_than_the_size(self):
        for prime, size, length in SHAPES:
            signs = made(prime, some_word(prime, size, 7), length)
            self.assertEqual(filled(prime, signs, size), signs)
            for gap in range(length if length > size else 0):
                self.assertEqual(filled(prime, signs[:gap] + [None] + signs[gap + 1:], size), signs)

    def test_the_first_known_signs_count_and_no_further_one(self):
        self.assertEqual(filled(11, [3, 5, 0, None], 2), [3, 5, 7, 9])
        self.assertEqual(filled(11, [None, 5, 7, 0, None, 10], 2), [3, 5, 7, 9, 0, 2])
        signs = some_word(29, 20, 3)
        signs[0], signs[4] = None, None
        self.assertEqual(filled(29, signs, 4), plain_filled(29, [1, 2, 3, 5], signs[1:4] + signs[5:6], 20))

    def test_none_where_fewer_are_known(self):
        self.assertIsNone(filled(7, [None], 1))
        self.assertIsNone(filled(7, [None, None, None], 1))
        self.assertIsNone(filled(7, [1, None, 3, None], 3))
        self.assertIsNone(filled(2, [0, None], 2))
        for known in range(16):
            self.assertIsNone(filled(997, [0] * known + [None] * (39 - known), 16))

    def test_nought_is_a_known_sign(self):
        self.assertEqual(filled(5, [None, 0, None, 0, None], 2), [0, 0, 0, 0, 0])

    def test_the_answer_is_a_list_of_its_own(self):
        signs = [1, 2, 3]
        answer = filled(7, signs, 3)
        self.assertIsInstance(answer, list)
        answer[0] = 6
        self.assertEqual(signs, [1, 2, 3])
