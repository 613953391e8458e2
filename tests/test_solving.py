import unittest
from itertools import product

from helper import plain_sign_at, some_word
from straysign.solving import only_curve, solved


def fits(prime, rows, numbers):
    return all(sum(left * right for left, right in zip(row, numbers)) % prime == row[-1] for row in rows)


class Solved(unittest.TestCase):
    def check(self, prime, rows, unknowns):
        answer = solved(prime, [list(row) for row in rows], unknowns)
        if answer is None:
            for numbers in product(range(prime), repeat=unknowns):
                self.assertFalse(fits(prime, rows, numbers), (prime, rows, numbers))
        else:
            self.assertEqual(len(answer), unknowns)
            self.assertTrue(all(number in range(prime) for number in answer), answer)
            self.assertTrue(fits(prime, rows, answer), (prime, rows, answer))

    def test_by_hand(self):
        self.assertEqual(solved(7, [[1, 1, 5], [1, 6, 1]], 2), [3, 2])
        self.assertIsNone(solved(7, [[1, 1, 5], [2, 2, 4]], 2))
        self.assertIsNone(solved(7, [[0, 0, 1]], 2))
        self.assertEqual(solved(7, [[0, 0, 0], [0, 3, 6]], 2), [0, 2])
        self.assertEqual(solved(7, [], 3), [0, 0, 0])

    def test_every_set_of_few_equations(self):
        for prime, unknowns, count in ((2, 1, 3), (2, 2, 3), (2, 3, 2), (3, 1, 3), (3, 2, 2), (5, 1, 2)):
            for rows in product(product(range(prime), repeat=unknowns + 1), repeat=count):
                self.check(prime, rows, unknowns)

    def test_more_unknowns(self):
        for seed in range(300):
            rows = [some_word(3, 5, seed * 7 + number) for number in range(seed % 6)]
            self.check(3, rows, 4)

    def test_great_ones_that_have_an_answer(self):
        for unknowns, count in ((16, 16), (38, 39), (39, 39), (20, 12)):
            numbers = some_word(997, unknowns, unknowns)
            rows = []
            for at in range(count):
                row = some_word(997, unknowns, 50 + at)
                rows.append(row + [sum(left * right for left, right in zip(row, numbers)) % 997])
            self.assertTrue(fits(997, rows, solved(997, rows, unknowns)))

    def test_rows_stay_as_they_are(self):
        rows = [[1, 1, 5], [1, 6, 1], [0, 1, 2]]
        solved(7, rows, 2)
        self.assertEqual(rows, [[1, 1, 5], [1, 6, 1], [0, 1, 2]])


class OnlyCurve(unittest.TestCase):
    def test_a_curve_comes_back_whole_from_signs_that_are_wrong_at_some_places(self):
        for prime, size, room in ((5, 1, 2), (7, 3, 2), (13, 4, 3), (41, 16, 11), (997, 16, 11), (997, 1, 11)):
            for wrong in range(room + 1):
                numbers = some_word(prime, size, 3 + wrong)
                places = list(range(prime - size - 2 * room, prime))
                signs = [plain_sign_at(prime, numbers, place) for place in places]
                for at in range(wrong):
                    signs[-1 - at] = (signs[-1 - at] + 1 + at % (prime - 1)) % prime
                self.assertEqual(only_curve(prime, places, signs, size, room), numbers)
