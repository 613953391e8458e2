"""Curves, told by the list of the numbers of the powers nought, one, two and so on (point 4)."""

from straysign.remainders import added, inverse, lessened, multiplied


def sign_at(prime, curve, place):
    total = 0
    # From the greatest power down: each step takes the place once more as a factor of all that came before.
    for number in reversed(curve):
        total = added(prime, multiplied(prime, total, place), number)
    return total


def signs_along(prime, curve, length):
    return [sign_at(prime, curve, place) for place in range(length)]


def powers_of(prime, place, count):
    powers = []
    # The power nought counts as one, at the place nought too.
    following = 1
    while len(powers) < count:
        powers.append(following)
        following = multiplied(prime, following, place)
    return powers


def sum_of_curves(prime, one, two):
    return [added(prime, left, right) for left, right in zip(one, two)]


def scaled(prime, curve, factor):
    return [multiplied(prime, number, factor) for number in curve]


def with_nought_at(prime, curve, place):
    # The curve times (x - place): each number goes one power up, less the place times it where it stood.
    raised = [0] + curve
    kept = scaled(prime, curve + [0], place)
    return [lessened(prime, up, down) for up, down in zip(raised, kept)]


def curve_through(prime, places, signs):
    curve = []
    # Nought at every place so far: a share of it mends the next place and leaves the earlier ones as they are.
    noughts = [1]
    for place, sign in zip(places, signs):
        missing = lessened(prime, sign, sign_at(prime, curve, place))
        # The places are different and below the prime, so this is not nought and has an inverse.
        height = sign_at(prime, noughts, place)
        share = multiplied(prime, missing, inverse(prime, height))
        curve = sum_of_curves(prime, curve + [0], scaled(prime, noughts, share))
        noughts = with_nought_at(prime, noughts, place)
    return curve


def divided(prime, over, under):
    # The last number of what divides must be one; so many times as the greatest power left tells, it takes that away.
    left = list(over)
    shares = []
    while len(left) >= len(under):
        share = left[-1]
        shares.append(share)
        start = len(left) - len(under)
        top = [lessened(prime, number, multiplied(prime, share, down)) for number, down in zip(left[start:], under)]
        left = left[:start] + top[:-1]
    return list(reversed(shares))
