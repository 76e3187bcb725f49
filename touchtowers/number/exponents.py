"""What generators and exponents tell of one another, and the division that makes counts of exponents.

Nothing here is checked: the tuples are those of some branch.
"""

from math import gcd


def divisors_along(numbers):
    """The common divisors of the first one of some integers, of the first two, and so on."""
    divisors = []
    divisor = 0
    for number in numbers:
        divisor = gcd(divisor, number)
        divisors.append(divisor)
    return tuple(divisors)


def shares_along(numbers):
    """Each of these common divisors but the last one, divided by the next one."""
    divisors = divisors_along(numbers)
    return tuple([high // low for high, low in zip(divisors, divisors[1:])])


def exponents_from(generators):
    """The exponents of the branches with these generators."""
    shares = shares_along(generators)
    exponents = list(generators[:2])
    for index in range(2, len(generators)):
        exponents.append(exponents[-1] + generators[index] - shares[index - 2] * generators[index - 1])
    return tuple(exponents)


def generators_from(exponents):
    """The generators of the branches with these exponents."""
    shares = shares_along(exponents)
    generators = list(exponents[:2])
    for index in range(2, len(exponents)):
        generators.append(exponents[index] - exponents[index - 1] + shares[index - 2] * generators[-1])
    return tuple(generators)


def division_pairs(exponents):
    """The pairs of integers that are to be divided, in their order."""
    steps = [high - low for low, high in zip(exponents[1:], exponents[2:])]
    return list(zip(list(exponents[1:2]) + steps, divisors_along(exponents)))


def count_runs(exponents):
    """The pairs of a count, and of how often it comes so, from the origin to the highest corner."""
    runs = []
    for top, bottom in division_pairs(exponents):
        while bottom != 0:
            runs.append((bottom, top // bottom))
            top, bottom = bottom, top % bottom
    return runs


def many_in_runs(runs):
    """The number of all counts in the runs."""
    return sum([many for count, many in runs])


def counts_in_runs(runs):
    """All counts in the runs."""
    return tuple([count for count, many in runs for _ in range(many)])
