"""A series in t as a series in a root of another one, modulo a prime. Nothing here is checked."""

from math import gcd

from touchtowers.base.numbers import residue_inverse
from touchtowers.base.series import multiplied_series, padded, scaled_sum
from touchtowers.number.orders import inverse_modulo


def cut_power(prime, entries, many, size):
    """So many entries of a power of a series."""
    result = [1]
    square = entries
    while many > 0:
        if many % 2 == 1:
            result = multiplied_series(prime, result, square)[:size]
        square = multiplied_series(prime, square, square)[:size]
        many = many // 2
    return result


def root_of_unit(prime, entries, degree, size):
    """So many entries of the series with the first entry 1 whose power is a series with the first entry 1.

    The prime does not divide the degree of the root.
    """
    # The power of such a series to the modulus has no entries but the first one below size. So powers count by their
    # rests, and the inverse of the degree stands for the root.
    modulus = prime
    while modulus < size:
        modulus = modulus * prime
    return cut_power(prime, entries, inverse_modulo(degree, modulus), size)


def parameter(prime, degree, x, size):
    """So many entries of the series of the order 1 whose power is x, but for a residue; x has the degree as order."""
    inverse = residue_inverse(prime, x[degree])
    unit = [entry * inverse % prime for entry in x[degree:degree + size]]
    return padded([0] + root_of_unit(prime, unit, degree, size), size)


def powers_of_expansion(prime, degree, x, y, size):
    """The powers of y, as a series in the root of x, that lower the divisor of the degree and those ahead of them."""
    root = parameter(prime, degree, x, size)
    rest = padded(y, size)
    power = padded([1], size)
    divisor = degree
    found = []
    for index in range(size):
        # The entry 1 of the power belongs to t to the index, and no term of lesser powers of t is left.
        if rest[index] != 0 and index % divisor != 0:
            divisor = gcd(divisor, index)
            found.append(index)
        rest = scaled_sum(prime, rest, -rest[index] % prime, power)
        power = multiplied_series(prime, power, root)[:size]
    return tuple(found)
