"""Grooves: where on the work a pass runs, by the closing of the nut at which it was made."""

from threadlathe.exact import least_terms, remainder


def top_of(ratio):
    return least_terms(ratio[0], ratio[1])[0]


def shift_of(ratio, closing):
    return remainder((closing, 1), ratio)


def groove_of(ratio, closing):
    # The shift over the ratio's bottom, though in its own least terms it may have a lesser one.
    least = least_terms(ratio[0], ratio[1])
    return closing * least[1] % least[0]


def inverse_of(number, modulus):
    # Euclid's division of the two, which share no divisor. All through, each rest is the number
    # times the factor beside it, but for whole multiples of the modulus; the last rest is 1.
    rest = modulus
    factor = 0
    new_rest = number % modulus
    new_factor = 1
    while new_rest != 0:
        times = rest // new_rest
        old_rest = rest
        old_factor = factor
        rest = new_rest
        factor = new_factor
        new_rest = old_rest - times * rest
        new_factor = old_factor - times * factor
    return factor % modulus


def least_closing(ratio, groove):
    # A closing times the bottom is the groove, but for whole multiples of the top: so it is divided back.
    least = least_terms(ratio[0], ratio[1])
    return groove * inverse_of(least[1], least[0]) % least[0]
