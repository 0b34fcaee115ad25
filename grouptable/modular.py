"""Numbers, rows of numbers and polynomials modulo a prime.

A polynomial is a list of its numbers, the one without x first.
"""


def inverse_number(number, prime):
    """The number that, times this one, leaves 1; it isn't a multiple of the prime."""
    # By Fermat that's the number to the power prime - 2.
    inverse = 1
    square = number % prime
    left = prime - 2
    while left > 0:
        if left % 2 == 1:
            inverse = inverse * square % prime
        square = square * square % prime
        left = left // 2
    return inverse


def multiple(row, factor, prime):
    return [number * factor % prime for number in row]


def with_multiple(row, factor, other, prime):
    """The row, with the other, factor times, added."""
    return [(number + factor * added) % prime for number, added in zip(row, other)]


def sum_of_products(row, other):
    return sum([number * matched for number, matched in zip(row, other)])


def image_of(matrix, row, prime):
    """What the matrix, a list of rows, makes of a row."""
    return [sum_of_products(entries, row) % prime for entries in matrix]


def value_at(polynomial, place, prime):
    value = 0
    for number in reversed(polynomial):
        value = (value * place + number) % prime
    return value


def zeros_of(polynomial, prime):
    """Where a polynomial is 0, from the least on."""
    return [place for place in range(prime) if value_at(polynomial, place, prime) == 0]


def without_zero(polynomial, zero, prime):
    """The polynomial divided by x - zero, where it's 0."""
    quotient = []
    value = 0
    for number in reversed(polynomial[1:]):
        value = (value * zero + number) % prime
        quotient.append(value)
    quotient.reverse()
    return quotient
