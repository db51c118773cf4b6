"""Exact reckoning with fractions, which are tuples (top, bottom) of two whole numbers."""


def greatest_divisor(a, b):
    while b != 0:
        rest = a % b
        a = b
        b = rest
    return a


def least_terms(top, bottom):
    # The sign is kept on the top, so a divisor below nought turns both signs.
    divisor = greatest_divisor(abs(top), abs(bottom))
    if bottom < 0:
        divisor = -divisor
    return (top // divisor, bottom // divisor)


def sum_of(a, b):
    return least_terms(a[0] * b[1] + b[0] * a[1], a[1] * b[1])


def difference(a, b):
    return least_terms(a[0] * b[1] - b[0] * a[1], a[1] * b[1])


def product(a, b):
    return least_terms(a[0] * b[0], a[1] * b[1])


def quotient(a, b):
    return least_terms(a[0] * b[1], a[1] * b[0])


def is_less(a, b):
    # Both bottoms are above nought, so multiplying by them keeps the order.
    return a[0] * b[1] < b[0] * a[1]


def remainder(a, b):
    # Over the bottom that both share, b's top is above nought, so the rest is never below nought.
    return least_terms((a[0] * b[1]) % (b[0] * a[1]), a[1] * b[1])
