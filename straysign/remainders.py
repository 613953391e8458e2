"""Primes, the signs of a prime, and how they are reckoned with (points 2 and 3)."""

from straysign.errors import BadSign, NotPrime

GREATEST = 1000


def is_prime(number):
    # A number may have a hundred figures, so the bound comes ahead of any dividing.
    if number < 2 or number > GREATEST:
        return False
    divisor = 2
    # Of two factors of a number, one is no greater than its square root.
    while divisor * divisor <= number:
        if number % divisor == 0:
            return False
        divisor = divisor + 1
    return True


def check_prime(prime):
    if not is_prime(prime):
        raise NotPrime(f"{prime} is no prime from 2 to {GREATEST}")


def is_sign(prime, number):
    return number >= 0 and number < prime


def check_signs(prime, signs):
    for sign in signs:
        if sign is None:
            raise BadSign("a gap stands where no gap may be")
        if not is_sign(prime, sign):
            raise BadSign(f"{sign} is no sign of the prime {prime}")


def check_signs_or_gaps(prime, signs):
    check_signs(prime, [sign for sign in signs if sign is not None])


def added(prime, one, two):
    return (one + two) % prime


def lessened(prime, one, two):
    return (one - two) % prime


def multiplied(prime, one, two):
    return (one * two) % prime


def power(prime, sign, times):
    result = 1
    square = sign
    left = times
    while left > 0:
        if left % 2 == 1:
            result = multiplied(prime, result, square)
        square = multiplied(prime, square, square)
        left = left // 2
    return result


def inverse(prime, sign):
    # Any sign but nought, taken prime - 1 times as a factor, is one; so one time less is what makes it one.
    return power(prime, sign, prime - 2)
