"""Made words: making them, knowing them, and filling them up from some of their signs (points 5 to 7)."""

from straysign.curves import curve_through, signs_along
from straysign.errors import BadLength
from straysign.remainders import check_prime, check_signs, check_signs_or_gaps


def check_length(prime, size, length):
    if size < 1:
        raise BadLength(f"the size {size} is below one")
    if length < size:
        raise BadLength(f"the length {length} is less than the size {size}")
    if length > prime:
        raise BadLength(f"the length {length} is greater than the prime {prime}")


def lengthened(prime, word, length):
    return signs_along(prime, curve_through(prime, list(range(len(word))), word), length)


def made(prime, word, length):
    check_prime(prime)
    check_signs(prime, word)
    check_length(prime, len(word), length)
    return lengthened(prime, word, length)


def is_made(prime, signs, size):
    check_prime(prime)
    check_signs(prime, signs)
    check_length(prime, size, len(signs))
    return lengthened(prime, signs[:size], len(signs)) == signs


def apart(one, two):
    return len([left for left, right in zip(one, two) if left != right])


def known_places(signs):
    return [place for place, sign in enumerate(signs) if sign is not None]


def filled(prime, signs, size):
    check_prime(prime)
    check_signs_or_gaps(prime, signs)
    check_length(prime, size, len(signs))
    places = known_places(signs)[:size]
    if len(places) < size:
        return None
    curve = curve_through(prime, places, [signs[place] for place in places])
    return signs_along(prime, curve, len(signs))
