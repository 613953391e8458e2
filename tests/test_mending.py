import unittest
from itertools import combinations, product

from helper import (
    all_made, plain_made, refusal, room_of, some_places, some_word, spoiled, with_gaps, words, wrong_places,
)
from straysign.errors import NotMended
from straysign.mending import mended, read

# A prime, a size and a length each, small enough to go through every choice of places.
SMALL = [(2, 1, 1), (2, 1, 2), (2, 2, 2), (3, 1, 2), (3, 1, 3), (3, 2, 3), (3, 3, 3), (5, 1, 5), (5, 2, 5), (5, 3, 5),
         (7, 1, 7), (7, 2, 7), (7, 3, 7), (7, 4, 6), (11, 2, 8), (13, 3, 7), (997, 1, 6), (997, 2, 7)]

# Great ones: no room, the length the prime, sizes up to sixteen, lengths 23 more than the size.
GREAT = [(17, 16, 16), (17, 16, 17), (23, 1, 23), (29, 6, 29), (31, 8, 31), (37, 14, 37), (41, 16, 39), (101, 16, 38),
         (257, 1, 24), (257, 8, 31), (997, 16, 16), (997, 16, 17), (997, 16, 18), (997, 2, 25), (997, 15, 38),
         (997, 16, 39)]


def near_enough(signs, size, word):
    """What point 8 says of a made word."""
    return room_of(signs, size) >= 0 and len(wrong_places(signs, word)) <= room_of(signs, size)


class ByHand(unittest.TestCase):
    def test_wrong_signs(self):
        self.assertEqual(mended(11, [3, 5, 7, 9, 0, 2], 2), ([3, 5, 7, 9, 0, 2], []))
        self.assertEqual(mended(11, [3, 5, 1, 9, 0, 2], 2), ([3, 5, 7, 9, 0, 2], [2]))
        self.assertEqual(mended(11, [0, 5, 7, 9, 0, 0], 2), ([3, 5, 7, 9, 0, 2], [0, 5]))

    def test_gaps(self):
        self.assertEqual(mended(11, [None, 5, 7, None, 0, 2], 2), ([3, 5, 7, 9, 0, 2], []))
        self.assertEqual(mended(11, [None, 5, 0, None, 0, 2], 2), ([3, 5, 7, 9, 0, 2], [2]))
        self.assertEqual(mended(11, [None, None, 7, None, None, 2], 2), ([3, 5, 7, 9, 0, 2], []))

    def test_no_made_word_near_enough(self):
        self.assertIs(refusal(mended, 11, [3, 5, 0], 2), NotMended)
        self.assertIs(refusal(mended, 11, [3, 5, 0, 0], 2), NotMended)
        self.assertIs(refusal(mended, 11, [3, None, 5, None, 0], 2), NotMended)

    def test_the_least_primes(self):
        self.assertEqual(mended(2, [1], 1), ([1], []))
        self.assertEqual(mended(2, [1, 1], 1), ([1, 1], []))
        self.assertEqual(mended(2, [1, 0], 2), ([1, 0], []))
        self.assertEqual(mended(2, [None, 1], 1), ([1, 1], []))
        self.assertIs(refusal(mended, 2, [0, 1], 1), NotMended)
        self.assertIs(refusal(mended, 2, [0, None], 2), NotMended)
        self.assertEqual(mended(3, [0, 1, 0], 1), ([0, 0, 0], [1]))
        self.assertEqual(mended(3, [2, 2, 0], 1), ([2, 2, 2], [2]))
        self.assertEqual(mended(3, [1, None, 0], 2), ([1, 2, 0], []))
        self.assertIs(refusal(mended, 3, [0, 1, 2], 1), NotMended)
        self.assertIs(refusal(mended, 3, [0, None, 2], 1), NotMended)
        self.assertIs(refusal(mended, 3, [0, 1, 1], 2), NotMended)

    def test_the_answer_is_a_pair_of_lists(self):
        for signs in ([3, 5, 7, 9], [3, 5, 0, 9], [3, None, None, 9]):
            answer = mended(11, signs, 2)
            self.assertIsInstance(answer, tuple)
            self.assertEqual(len(answer), 2)
            self.assertIsInstance(answer[0], list)
            self.assertIsInstance(answer[1], list)
            self.assertIsNot(answer[0], signs)


class AsThePointsSay(unittest.TestCase):
    def test_every_list_of_signs_and_gaps_over_small_primes(self):
        for prime, size, length in ((2, 1, 1), (2, 1, 2), (2, 2, 2), (3, 1, 1), (3, 1, 2), (3, 1, 3), (3, 2, 2),
                                    (3, 2, 3), (3, 3, 3), (5, 1, 4), (5, 1, 5), (5, 2, 5), (5, 3, 4), (7, 1, 4)):
            rows = all_made(prime, size, length)
            for signs in product([None] + list(range(prime)), repeat=length):
                near = [row for row in rows if near_enough(signs, size, row)]
                self.assertLessEqual(len(near), 1)
                if near:
                    self.assertEqual(mended(prime, list(signs), size), (near[0], wrong_places(signs, near[0])))
                else:
                    self.assertIs(refusal(mended, prime, list(signs), size), NotMended, (prime, size, signs))


class WithRoom(unittest.TestCase):
    def check(self, prime, size, row, signs, wrong):
        self.assertEqual(mended(prime, signs, size), (row, sorted(wrong)), (prime, size, signs))
        self.assertEqual(read(prime, signs, size), row[:size], (prime, size, signs))

    def test_every_choice_of_wrong_places_and_gaps(self):
        for prime, size, length in SMALL:
            row = plain_made(prime, some_word(prime, size, length), length)
            for gaps in range(length - size + 1):
                for empty in combinations(range(length), gaps):
                    full = [place for place in range(length) if place not in empty]
                    for count in range((length - gaps - size) // 2 + 1):
                        for wrong in combinations(full, count):
                            signs = with_gaps(spoiled(prime, row, wrong, gaps), empty)
                            self.check(prime, size, row, signs, wrong)

    def test_every_other_sign_at_the_wrong_places(self):
        for prime, size, length in ((3, 1, 3), (5, 1, 5), (5, 3, 5), (7, 2, 6), (7, 5, 7), (31, 3, 5)):
            for seed in range(6):
                row = plain_made(prime, some_word(prime, size, seed), length)
                for wrong in combinations(range(length), (length - size) // 2):
                    for shifts in product(range(1, prime), repeat=len(wrong)):
                        signs = list(row)
                        for place, shift in zip(wrong, shifts):
                            signs[place] = (signs[place] + shift) % prime
                        self.check(prime, size, row, signs, wrong)

    def test_great_ones(self):
        for prime, size, length in GREAT:
            for seed in range(4):
                row = plain_made(prime, some_word(prime, size, seed), length)
                self.check(prime, size, row, row, [])
                for gaps in {0, 1, 2, (length - size) // 2, length - size} & set(range(length - size + 1)):
                    order = some_word(2**20, length, seed + gaps)
                    places = sorted(range(length), key=lambda place: (order[place], place))
                    room = (length - gaps - size) // 2
                    wrong, empty = places[:room], places[room:room + gaps]
                    self.check(prime, size, row, with_gaps(spoiled(prime, row, wrong, seed), empty), wrong)

    def test_each_size_up_to_sixteen_and_23_more(self):
        for prime in (41, 997):
            for size in range(1, 17):
                row = plain_made(prime, some_word(prime, size, prime), size + 23)
                for wrong in (list(range(11)), list(range(size + 12, size + 23)), some_places(11, size + 23, size)):
                    self.check(prime, size, row, spoiled(prime, row, wrong), wrong)

    def test_somewhat_beyond_the_bounds(self):
        row = plain_made(101, some_word(101, 20, 1), 60)
        wrong = some_places(20, 60, 4)
        self.check(101, 20, row, spoiled(101, row, wrong), wrong)

    def test_words_of_nought_alone(self):
        for prime, size, length in GREAT:
            wrong = some_places((length - size) // 2, length, 8)
            self.check(prime, size, [0] * length, spoiled(prime, [0] * length, wrong), wrong)

    def test_all_gaps_that_may_be_where_nothing_is_wrong(self):
        for prime, size, length in GREAT:
            row = plain_made(prime, some_word(prime, size, 2), length)
            for seed in range(3):
                self.check(prime, size, row, with_gaps(row, some_places(length - size, length, seed)), [])
            self.check(prime, size, row, [None] * (length - size) + row[length - size:], [])


class ExactlyAsManyKnown(unittest.TestCase):
    def test_any_signs_tell_a_made_word(self):
        for prime, size, length in ((2, 1, 2), (2, 2, 2), (3, 2, 3), (5, 2, 4), (7, 3, 5)):
            for word in words(prime, size):
                for places in combinations(range(length), size):
                    signs = [None] * length
                    for place, sign in zip(places, word):
                        signs[place] = sign
                    row, wrong = mended(prime, signs, size)
                    self.assertEqual(([row[place] for place in places], wrong), (word, []))
                    self.assertEqual(row, plain_made(prime, row[:size], length))

    def test_no_room_where_one_more_is_known(self):
        for prime, size, length in ((2, 1, 2), (3, 2, 3), (7, 3, 4), (17, 16, 17), (997, 16, 17), (997, 1, 2)):
            row = plain_made(prime, some_word(prime, size, 6), length)
            self.assertEqual(mended(prime, row, size), (row, []))
            for place in range(length):
                self.assertIs(refusal(mended, prime, spoiled(prime, row, [place]), size), NotMended)
                self.assertIs(refusal(read, prime, spoiled(prime, row, [place]), size), NotMended)


class TooMany(unittest.TestCase):
    def test_one_wrong_sign_more_than_there_is_room_for(self):
        others, refused = 0, 0
        for prime, size, length in SMALL + GREAT:
            row = plain_made(prime, some_word(prime, size, 5), length)
            for gaps in range(min(4, length - size + 1)):
                for seed in range(12):
                    empty = some_places(gaps, length, seed)
                    full = [place for place in range(length) if place not in empty]
                    room = (len(full) - size) // 2
                    wrong = [full[at] for at in some_places(room + 1, len(full), seed + 40)]
                    signs = with_gaps(spoiled(prime, row, wrong, seed), empty)
                    if refusal(mended, prime, signs, size) is NotMended:
                        self.assertIs(refusal(read, prime, signs, size), NotMended)
                        refused += 1
                        continue
                    other, places = mended(prime, signs, size)
                    self.assertNotEqual(other, row)
                    self.assertEqual(other, plain_made(prime, other[:size], length))
                    self.assertEqual(places, wrong_places(signs, other))
                    self.assertTrue(near_enough(signs, size, other))
                    self.assertEqual(read(prime, signs, size), other[:size])
                    others += 1
        self.assertGreater(others, 20)
        self.assertGreater(refused, 20)

    def test_signs_without_order(self):
        for prime, size, length in ((41, 16, 39), (997, 16, 39), (997, 1, 24), (997, 16, 18)):
            for seed in range(10):
                self.assertIs(refusal(mended, prime, some_word(prime, length, seed), size), NotMended)


class TooFewKnown(unittest.TestCase):
    def test_none_known(self):
        for prime, size, length in SMALL + GREAT:
            for call in (mended, read):
                self.assertIs(refusal(call, prime, [None] * length, size), NotMended)

    def test_fewer_than_the_size(self):
        for prime, size, length in SMALL + GREAT:
            row = plain_made(prime, some_word(prime, size, 1), length)
            for known in range(size):
                for seed in range(2):
                    signs = with_gaps(row, some_places(length - known, length, seed))
                    for call in (mended, read):
                        self.assertIs(refusal(call, prime, signs, size), NotMended)
            signs = with_gaps(row, some_places(length - size, length, 3))
            self.assertEqual(mended(prime, signs, size), (row, []))


class Read(unittest.TestCase):
    def test_the_first_signs_as_many_as_the_size(self):
        self.assertEqual(read(11, [3, 5, 7, 9, 0, 2], 2), [3, 5])
        self.assertEqual(read(11, [0, 5, 7, 9, 0, 0], 2), [3, 5])
        self.assertEqual(read(11, [None, None, 7, 9, None, 2], 2), [3, 5])
        self.assertEqual(read(11, [3, 5, 7, 9, 0, 2], 3), [3, 5, 7])
        self.assertEqual(read(2, [None, 1], 1), [1])
        self.assertEqual(read(7, [6, 0, 3], 3), [6, 0, 3])
        self.assertIsInstance(read(7, [6, 0, 3], 3), list)
