"""Mending: the made word that is near enough to signs of which some are wrong or gaps (points 8 and 9)."""

from straysign.curves import signs_along
from straysign.errors import NotMended
from straysign.making import check_length, known_places
from straysign.remainders import check_prime, check_signs_or_gaps
from straysign.solving import only_curve


def wrong_places(signs, word):
    return [place for place in known_places(signs) if signs[place] != word[place]]


def nearest(prime, signs, size):
    places = known_places(signs)
    known = len(places)
    if known < size:
        raise NotMended(f"{known} signs are known, fewer than the size {size}")
    room = (known - size) // 2
    curve = only_curve(prime, places, [signs[place] for place in places], size, room)
    if curve is None:
        raise NotMended("no made word is near enough")
    word = signs_along(prime, curve, len(signs))
    wrong = wrong_places(signs, word)
    # A curve comes out too where none is near enough, so the wrong signs are counted.
    if len(wrong) > room:
        raise NotMended("no made word is near enough")
    return (word, wrong)


def mended(prime, signs, size):
    check_prime(prime)
    check_signs_or_gaps(prime, signs)
    check_length(prime, size, len(signs))
    return nearest(prime, signs, size)


def read(prime, signs, size):
    return mended(prime, signs, size)[0][:size]
