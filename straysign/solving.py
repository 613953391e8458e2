"""What the mending needs: equations over the signs of a prime, and the one curve that can be near enough to signs.

The wrong places needn't be known ahead. Say that a further curve, the finder, is nought at each of them. Then the
curve that is looked for, times the finder, is at every known place the sign there times the finder, be that sign
wrong or not. This is one equation for each known place, in the numbers of the product and in those of the finder.
"""

from straysign.curves import divided, powers_of, scaled
from straysign.remainders import inverse, lessened


def without(prime, row, column, other):
    # The other row has one at the column, so taking it away so many times leaves nought there.
    times = row[column]
    if times == 0:
        return row
    return [(number - times * taken) % prime for number, taken in zip(row, other)]


def first_not_nought(row):
    for column, number in enumerate(row):
        if number != 0:
            return column
    return None


def rest_beside(prime, row, kept):
    rest = row
    for column, other in kept:
        rest = without(prime, rest, column, other)
    return rest


def solved(prime, rows, unknowns):
    # A row holds a number for each unknown and, last, what they come to. Each kept row has one at its own column,
    # where all other kept rows have nought. So it tells its unknown, with those that have no row taken as nought.
    kept = []
    for row in rows:
        rest = rest_beside(prime, row, kept)
        lead = first_not_nought(rest)
        if lead == unknowns:
            return None
        if lead is not None:
            fresh = scaled(prime, rest, inverse(prime, rest[lead]))
            kept = [(column, without(prime, other, lead, fresh)) for column, other in kept] + [(lead, fresh)]
    answer = [0] * unknowns
    for column, row in kept:
        answer[column] = row[unknowns]
    return answer


def equation(prime, place, sign, size, room):
    # The finder's greatest number is one, so that it is never nought throughout; its share is known and stands last.
    powers = powers_of(prime, place, size + room)
    times_sign = scaled(prime, powers, sign)
    return powers + [lessened(prime, 0, number) for number in times_sign[:room]] + [times_sign[room]]


def only_curve(prime, places, signs, size, room):
    # Where a curve is near enough, the product and that curve times the finder are both of the size and room taken
    # together, and they are the same at all places that are not wrong, which are so many or more. So they are the same
    # curve, whichever answer the equations give. Where none is near enough, some other curve or None comes out.
    rows = [equation(prime, place, sign, size, room) for place, sign in zip(places, signs)]
    numbers = solved(prime, rows, size + 2 * room)
    if numbers is None:
        return None
    product = numbers[:size + room]
    finder = numbers[size + room:] + [1]
    return divided(prime, product, finder)
