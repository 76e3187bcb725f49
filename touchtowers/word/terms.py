"""Polynomials in x and y, told by dicts from pairs of exponents to integers, taken modulo a prime at the end."""

from touchtowers.base.series import multiplied_series


def sums_of_terms(one, factor, other):
    """The first dict, and the second one multiplied by an integer, added."""
    sums = {pair: one[pair] for pair in one}
    for pair in other:
        sums[pair] = sums.get(pair, 0) + factor * other[pair]
    return sums


def products_of_terms(one, other):
    """The product of both."""
    sums = {}
    for (i, j), entry in one.items():
        for (k, m), factor in other.items():
            pair = (i + k, j + m)
            sums[pair] = sums.get(pair, 0) + entry * factor
    return sums


def terms_turned(terms, weight):
    """What the terms become for the turn, divided by u to the weight."""
    return {(i + j - weight, i): entry for (i, j), entry in terms.items()}


def terms_blown_up(prime, terms, residue, weight):
    """What the terms become for a residue, divided by u to the weight."""
    most = max([j for i, j in terms], default=0)
    powers = [[1]]
    for _ in range(most):
        powers.append(multiplied_series(prime, powers[-1], [residue, 1]))
    sums = {}
    for (i, j), entry in terms.items():
        for k, factor in enumerate(powers[j]):
            pair = (i + j - weight, k)
            sums[pair] = sums.get(pair, 0) + entry * factor
    return sums
