import unittest
from itertools import combinations, permutations, product

from helper import plain_curves, plain_sign_at, some_word
from straysign.curves import curve_through, divided, powers_of, sign_at, signs_along


class AtAPlace(unittest.TestCase):
    def test_the_curve_by_3_and_2(self):
        for prime in (11, 13, 101, 997):
            self.assertEqual([sign_at(prime, [3, 2], place) for place in range(4)], [3, 5, 7, 9])
            self.assertEqual(signs_along(prime, [3, 2], 4), [3, 5, 7, 9])

    def test_remainders_are_taken(self):
        self.assertEqual(signs_along(7, [3, 2], 4), [3, 5, 0, 2])
        self.assertEqual(signs_along(2, [1, 1], 2), [1, 0])

    def test_the_power_nought_counts_as_one_at_the_place_nought_too(self):
        for prime in (2, 3, 997):
            self.assertEqual(sign_at(prime, [1], 0), 1)
            self.assertEqual(sign_at(prime, [1, 1, 1], 0), 1)

    def test_each_curve_of_some_small_primes_at_each_place(self):
        for prime, size in ((2, 1), (2, 2), (3, 3), (5, 3), (7, 2)):
            for numbers in plain_curves(prime, size):
                for place in range(prime):
                    self.assertEqual(sign_at(prime, numbers, place), plain_sign_at(prime, numbers, place))

    def test_a_great_size_and_prime(self):
        numbers = some_word(997, 16, 5)
        for place in (0, 1, 2, 500, 996):
            self.assertEqual(sign_at(997, numbers, place), plain_sign_at(997, numbers, place))


class ThroughSigns(unittest.TestCase):
    def test_just_one_curve_of_the_size_has_the_signs(self):
        for prime, size in ((2, 1), (2, 2), (3, 1), (3, 2), (3, 3), (5, 2)):
            curves = plain_curves(prime, size)
            for places in combinations(range(prime), size):
                for signs in product(range(prime), repeat=size):
                    fitting = [numbers for numbers in curves
                               if all(plain_sign_at(prime, numbers, place) == sign
                                      for place, sign in zip(places, signs))]
                    self.assertEqual([curve_through(prime, list(places), list(signs))], fitting)

    def test_the_order_of_the_places_is_no_matter(self):
        for order in permutations([(0, 4), (3, 1), (5, 5), (6, 0)]):
            places, signs = [place for place, _ in order], [sign for _, sign in order]
            curve = curve_through(7, places, signs)
            self.assertEqual(len(curve), 4)
            for place, sign in order:
                self.assertEqual(plain_sign_at(7, curve, place), sign)

    def test_a_curve_comes_back_from_its_signs_at_far_places(self):
        numbers = some_word(997, 16, 9)
        places = [996, 0, 500, 3, 17, 18, 19, 250, 700, 701, 995, 42, 64, 128, 256, 512]
        signs = [plain_sign_at(997, numbers, place) for place in places]
        self.assertEqual(curve_through(997, places, signs), numbers)


class Powers(unittest.TestCase):
    def test_from_the_power_nought_on(self):
        for prime in (2, 3, 7, 997):
            for place in range(min(prime, 10)):
                for count in range(6):
                    self.assertEqual(powers_of(prime, place, count), [place**power % prime for power in range(count)])


class Divided(unittest.TestCase):
    def test_by_hand(self):
        self.assertEqual(divided(7, [6, 5, 1], [2, 1]), [3, 1])
        self.assertEqual(divided(7, [6, 5, 1, 0], [2, 1]), [3, 1, 0])
        self.assertEqual(divided(7, [4, 2], [1]), [4, 2])
        self.assertEqual(divided(7, [0, 0, 0], [5, 1]), [0, 0])

    def test_a_product_gives_back_the_other_factor(self):
        for prime, size, room in ((2, 1, 1), (3, 2, 1), (5, 3, 2), (997, 16, 11)):
            for seed in range(10):
                factor, under = some_word(prime, size, seed), some_word(prime, room, seed + 99) + [1]
                over = [0] * (size + room)
                for left, one in enumerate(factor):
                    for right, two in enumerate(under):
                        over[left + right] = (over[left + right] + one * two) % prime
                handed = list(over)
                self.assertEqual(divided(prime, handed, under), factor)
                self.assertEqual(handed, over)
