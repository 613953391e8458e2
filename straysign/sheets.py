"""Sheets: words laid together place by place, dealt out again and taken up (points 10 and 11)."""

from straysign.errors import BadLength
from straysign.making import made
from straysign.mending import read
from straysign.remainders import check_prime


def laid(prime, words, length):
    check_prime(prime)
    # Beside no words the length may be any number, so no place is walked then.
    if len(words) == 0:
        return []
    longer = [made(prime, word, length) for word in words]
    signs = []
    for place in range(length):
        signs.extend([word[place] for word in longer])
    return signs


def check_count(signs, count):
    if count < 1:
        raise BadLength(f"the count {count} is below one")
    total = len(signs)
    if total % count != 0:
        raise BadLength(f"{total} signs can't be dealt to {count} words, so many to each")


def signs_of_one(signs, count, first):
    return [signs[place] for place in range(first, len(signs), count)]


def dealt(signs, count):
    check_count(signs, count)
    return [signs_of_one(signs, count, first) for first in range(count)]


def taken_up(prime, signs, count, size):
    check_prime(prime)
    check_count(signs, count)
    # Each word is read before the next is dealt: no signs may be dealt to a count too great to hold all its words.
    return [read(prime, signs_of_one(signs, count, first), size) for first in range(count)]
