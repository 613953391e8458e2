import unittest

from helper import plain_made, refusal, some_word, spoiled, with_gaps
from straysign.errors import BadLength, NotMended, NotPrime
from straysign.making import made
from straysign.sheets import dealt, laid, taken_up

# A prime, a size, a length and how many words each.
SHAPES = [(2, 1, 1, 3), (2, 1, 2, 2), (2, 2, 2, 1), (3, 1, 3, 4), (3, 2, 3, 2), (5, 1, 5, 3), (5, 3, 5, 2),
          (7, 2, 6, 5), (7, 3, 7, 1), (13, 4, 9, 3), (41, 16, 39, 2), (997, 2, 25, 3), (997, 16, 20, 4)]


def some_words(prime, size, count):
    return [some_word(prime, size, seed) for seed in range(count)]


class Laid(unittest.TestCase):
    def test_by_hand(self):
        self.assertEqual(laid(11, [[3, 5], [1, 1]], 4), [3, 1, 5, 1, 7, 1, 9, 1])
        self.assertEqual(laid(11, [[1, 1], [3, 5]], 4), [1, 3, 1, 5, 1, 7, 1, 9])
        self.assertEqual(laid(11, [[3, 5]], 4), [3, 5, 7, 9])
        self.assertEqual(laid(2, [[1], [0], [1]], 2), [1, 0, 1, 1, 0, 1])

    def test_words_of_different_sizes(self):
        self.assertEqual(laid(11, [[3, 5], [4], [0, 1, 4]], 4), [3, 4, 0, 5, 4, 1, 7, 4, 4, 9, 4, 9])

    def test_without_words_no_signs_whatever_the_length(self):
        for length in (0, 1, 5, 7, 8, -1, -8, 1000, 10**12, 10**99, -(10**99)):
            for prime in (2, 7, 997):
                self.assertEqual(laid(prime, [], length), [])
            for prime in (1, 4, 1001):
                self.assertIs(refusal(laid, prime, [], length), NotPrime)

    def test_place_by_place_in_the_order_of_the_words(self):
        for prime, size, length, count in SHAPES:
            words = some_words(prime, size, count)
            rows = [plain_made(prime, word, length) for word in words]
            signs = laid(prime, words, length)
            self.assertIsInstance(signs, list)
            self.assertEqual(signs, [row[place] for place in range(length) for row in rows])

    def test_as_many_words_as_a_list_may_have(self):
        words = [[number % 7] for number in range(1000)]
        self.assertEqual(laid(7, words, 1), [number % 7 for number in range(1000)])


class Dealt(unittest.TestCase):
    def test_by_hand(self):
        self.assertEqual(dealt([3, 1, 5, 1, 7, 1, 9, 1], 2), [[3, 5, 7, 9], [1, 1, 1, 1]])
        self.assertEqual(dealt([0, 1, 2, 3, 4, 5], 3), [[0, 3], [1, 4], [2, 5]])
        self.assertEqual(dealt([0, 1, 2, 3, 4, 5], 2), [[0, 2, 4], [1, 3, 5]])

    def test_one_word_and_one_sign_each(self):
        signs = [4, None, 2]
        self.assertEqual(dealt(signs, 1), [[4, None, 2]])
        self.assertIsNot(dealt(signs, 1)[0], signs)
        self.assertEqual(dealt(signs, 3), [[4], [None], [2]])

    def test_any_numbers_and_gaps(self):
        self.assertEqual(dealt([-1, None, 10**99, -(10**99), None, 5000], 2),
                         [[-1, 10**99, None], [None, -(10**99), 5000]])

    def test_no_signs(self):
        self.assertEqual(dealt([], 1), [[]])
        self.assertEqual(dealt([], 3), [[], [], []])
        for count in (0, -1, -(10**99)):
            self.assertIs(refusal(dealt, [], count), BadLength)

    def test_each_list_is_its_own(self):
        lists = dealt([], 3)
        lists[0].append(1)
        self.assertEqual(lists, [[1], [], []])

    def test_bad_counts(self):
        for length in range(1, 14):
            signs = [None] + list(range(length - 1))
            for count in (0, -1, -length, length + 1, 2 * length, 10**12, 10**99, -(10**12)):
                self.assertIs(refusal(dealt, signs, count), BadLength, (length, count))
            for count in range(1, length + 1):
                if length % count:
                    self.assertIs(refusal(dealt, signs, count), BadLength, (length, count))
                else:
                    self.assertEqual(dealt(signs, count),
                                     [[signs[place] for place in range(length) if place % count == number]
                                      for number in range(count)])

    def test_a_thousand_signs(self):
        signs = list(range(1000))
        self.assertEqual(dealt(signs, 1000), [[number] for number in range(1000)])
        self.assertEqual(dealt(signs, 8)[3], list(range(3, 1000, 8)))
        self.assertIs(refusal(dealt, signs, 999), BadLength)

    def test_what_is_laid_is_dealt_out_again(self):
        for prime, size, length, count in SHAPES:
            words = some_words(prime, size, count)
            self.assertEqual(dealt(laid(prime, words, length), count), [made(prime, word, length) for word in words])


class TakenUp(unittest.TestCase):
    def test_by_hand(self):
        self.assertEqual(taken_up(11, [3, 1, 5, 1, 7, 1, 9, 1], 2, 2), [[3, 5], [1, 1]])
        self.assertEqual(taken_up(11, [3, 2, 6, 1, 7, 1, 9, 1], 2, 2), [[3, 5], [1, 1]])
        self.assertEqual(taken_up(11, [None, 1, None, None, 7, None, 9, 1], 2, 2), [[3, 5], [1, 1]])
        self.assertEqual(taken_up(11, [3, 5, 7, 9], 1, 3), [[3, 5, 7]])

    def test_nothing_wrong(self):
        for prime, size, length, count in SHAPES:
            words = some_words(prime, size, count)
            answer = taken_up(prime, laid(prime, words, length), count, size)
            self.assertIsInstance(answer, list)
            self.assertEqual(answer, words)

    def test_wrong_signs_on_end_at_every_place_where_they_may_begin(self):
        for prime, size, length, count in SHAPES:
            words = some_words(prime, size, count)
            signs = laid(prime, words, length)
            wrong = count * ((length - size) // 2)
            for start in range(len(signs) - wrong + 1):
                bad = spoiled(prime, signs, range(start, start + wrong), start)
                self.assertEqual(taken_up(prime, bad, count, size), words, (prime, size, length, count, start))

    def test_gaps_among_the_wrong_signs_on_end(self):
        for prime, size, length, count in SHAPES:
            words = some_words(prime, size, count)
            signs = laid(prime, words, length)
            wrong = count * ((length - size) // 2)
            for start in range(0, len(signs) - wrong + 1, 3):
                bad = spoiled(prime, signs, range(start, start + wrong), start)
                for step in (1, 2, 3):
                    empty = range(start, start + wrong, step)
                    self.assertEqual(taken_up(prime, with_gaps(bad, empty), count, size), words)

    def test_gaps_on_end_where_nothing_is_wrong(self):
        for prime, size, length, count in SHAPES:
            words = some_words(prime, size, count)
            signs = laid(prime, words, length)
            gaps = count * (length - size)
            for start in range(len(signs) - gaps + 1):
                empty = range(start, start + gaps)
                self.assertEqual(taken_up(prime, with_gaps(signs, empty), count, size), words)

    def test_one_wrong_sign_more_is_too_much_for_one_word(self):
        signs = laid(997, [[5, 7], [8, 9], [1, 2]], 8)
        for start in range(len(signs) - 9):
            bad = spoiled(997, signs, range(start, start + 10), start)
            self.assertIs(refusal(taken_up, 997, bad, 3, 2), NotMended)

    def test_a_thousand_signs(self):
        words = some_words(997, 16, 25)
        signs = laid(997, words, 39)
        bad = spoiled(997, signs, range(300, 300 + 25 * 11))
        self.assertEqual(taken_up(997, bad, 25, 16), words)
        self.assertEqual(taken_up(7, [number % 7 for number in range(1000)], 1000, 1),
                         [[number % 7] for number in range(1000)])

    def test_bad_counts(self):
        for signs in ([1], [1, 2, 3, 4], [None] * 6, [-1] * 6, [10**99] * 4):
            for count in (0, -1, 5, len(signs) + 1, 10**12, -(10**99)):
                for size in (-1, 0, 1, 2, 10**99):
                    self.assertIs(refusal(taken_up, 7, signs, count, size), BadLength, (signs, count, size))

    def test_no_signs(self):
        for count in (0, -1, 1, 3, 10**12, 10**99):
            for size in (-1, 0, 1):
                self.assertIs(refusal(taken_up, 7, [], count, size), BadLength, (count, size))
