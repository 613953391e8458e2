"""What the tests share: the document's rules worked out anew in plain Python, and how a refusal is told."""

from itertools import product

from straysign.errors import StrayError

PRIMES = [number for number in range(2, 1001) if all(number % other for other in range(2, number))]
NO_PRIMES = [0, 1, -1, -2, -7, 4, 9, 25, 961, 1000, 1001, 1009, 10**12, 10**12 + 39, 10**99 + 289, -(10**99)]


def plain_sign_at(prime, numbers, place):
    """What point 4 says of a curve, written out: the sum of number times place to the power."""
    return sum(number * place**power for power, number in enumerate(numbers)) % prime


def plain_curves(prime, size):
    return [list(numbers) for numbers in product(range(prime), repeat=size)]


def plain_filled(prime, places, signs, length):
    """The signs at all places below the length, by the sum of one product for each known sign."""
    answer = []
    for at in range(length):
        total = 0
        for place, sign in zip(places, signs):
            above, below = sign, 1
            for other in places:
                if other != place:
                    above *= at - other
                    below *= place - other
            total += above * pow(below, -1, prime)
        answer.append(total % prime)
    return answer


def plain_made(prime, word, length):
    return plain_filled(prime, range(len(word)), word, length)


def words(prime, size):
    return [list(signs) for signs in product(range(prime), repeat=size)]


def some_word(prime, size, seed):
    """Signs without order to the eye, the same on each run."""
    signs = []
    for _ in range(size):
        seed = (seed * 1103515245 + 12345) % 2**31
        signs.append((seed >> 8) % prime)
    return signs


def all_made(prime, size, length):
    return [[plain_sign_at(prime, numbers, place) for place in range(length)] for numbers in plain_curves(prime, size)]


def room_of(signs, size):
    return (sum(sign is not None for sign in signs) - size) // 2


def wrong_places(signs, word):
    return [place for place, sign in enumerate(signs) if sign is not None and sign != word[place]]


def spoiled(prime, signs, places, seed=0):
    """Another sign at each of the places; a known one, whichever the seed is."""
    answer = list(signs)
    for place in places:
        answer[place] = (answer[place] + 1 + (seed + place * place) % (prime - 1)) % prime
    return answer


def with_gaps(signs, places):
    return [None if place in places else sign for place, sign in enumerate(signs)]


def some_places(count, among, seed):
    """So many different places below a number, the same on each run; rising."""
    order = sorted(zip(some_word(2**20, among, seed), range(among)))
    return sorted(place for _, place in order[:count])


def refusal(call, *arguments):
    """The class of the StrayError that the call refuses with, or None where it refuses nothing."""
    try:
        call(*arguments)
    except StrayError as error:
        return type(error)
    return None
