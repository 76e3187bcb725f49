"""The generators of branches, the orders that they make, and the gaps between these."""

from touchtowers.base.numbers import are_whole, check_between, check_prime, is_integer
from touchtowers.errors import InvalidCount, InvalidOrders, TooMany
from touchtowers.number.exponents import (count_runs, counts_in_runs, division_pairs, divisors_along, exponents_from,
                                          many_in_runs, shares_along)
from touchtowers.tower.points import corners_of, counts_of
from touchtowers.word.words import TURN, Branch, is_word

MAX_GAPS = 10000
MAX_LEAST = 2000

MAX_TOLD = 200
MAX_WORD = 60


def generators_of(branch):
    """The generators of a branch."""
    corners = corners_of(branch)
    counts = counts_of(branch, len(branch))
    generators = [counts[0]]
    common = counts[0]
    total = 0
    for height, count in enumerate(counts):
        total = total + count * count
        if height in corners and height + 1 not in corners:
            generators.append(total // common)
            common = count
    return tuple(generators)


def ascend_as_generators(numbers):
    """Whether two or more integers have the divisors and the steps of generators."""
    if not 2 <= numbers[0] < numbers[1]:
        return False
    divisors = divisors_along(numbers)
    if divisors[-1] != 1 or not all([low < high for high, low in zip(divisors, divisors[1:])]):
        return False
    parts = shares_along(numbers)
    return all([high > part * low for low, part, high in zip(numbers[1:], parts, numbers[2:])])


def are_generators(value):
    """Whether the value is the tuple of the generators of some branch."""
    if not isinstance(value, tuple) or not all([is_integer(entry) for entry in value]):
        return False
    return value == (1,) or (len(value) > 1 and ascend_as_generators(value))


def check_generators(generators):
    """Refuse all but the generators of branches."""
    if not are_generators(generators):
        raise InvalidOrders("not the generators of a branch")


def check_number(generators, number):
    """Refuse all but generators with an integer."""
    check_generators(generators)
    if not is_integer(number):
        raise InvalidCount(number)


def shares(generators):
    """How often each common divisor is greater than the next one."""
    check_generators(generators)
    return shares_along(generators)


def commons(generators):
    """The common divisors of the first generators."""
    check_generators(generators)
    return divisors_along(generators)


def inverse_modulo(number, modulus):
    """The integer from 0 on, below a modulus of at least 2, that makes 1 with a number prime to it."""
    high, low = modulus, number % modulus
    # The factors of the number that leave high and low, but for multiples of the modulus.
    factor, next_factor = 0, 1
    while low != 0:
        quotient = high // low
        high, low = low, high - quotient * low
        factor, next_factor = next_factor, factor - quotient * next_factor
    return factor % modulus


def paper_of(generators, number):
    """The paper of an integer."""
    divisors = divisors_along(generators)
    paper = []
    for index in range(len(generators) - 1, 0, -1):
        common = divisors[index]
        share = divisors[index - 1] // common
        # What is left is a multiple of this common divisor, and has to become one of the divisor ahead.
        entry = number // common * inverse_modulo(generators[index] // common, share) % share
        number = number - entry * generators[index]
        paper.append(entry)
    paper.append(number // generators[0])
    return tuple(paper[::-1])


def is_order(generators, number):
    """Whether the number is an order of the branches with these generators."""
    check_number(generators, number)
    return paper_of(generators, number)[0] >= 0


def order_paper(generators, number):
    """The paper of a number."""
    check_number(generators, number)
    return paper_of(generators, number)


def is_order_paper(generators, number, value):
    """Whether the value is the paper of a number."""
    check_number(generators, number)
    return are_whole(value) and value == paper_of(generators, number)


def last_gap(generators):
    """The greatest integer that is no order, -1 if all from 0 on are."""
    check_generators(generators)
    sums = [(share - 1) * generator for share, generator in zip(shares_along(generators), generators[1:])]
    return sum(sums) - generators[0]


def lacked_by_orders(generators):
    """The number of the gaps."""
    return (last_gap(generators) + 1) // 2


def orders_to(generators, size):
    """A list that tells of each integer below a size whether it is an order."""
    known = ([True] + [False] * size)[:size]
    for generator in generators:
        for number in range(generator, size):
            known[number] = known[number] or known[number - generator]
    return known


def gaps(generators):
    """All gaps, ascending."""
    if lacked_by_orders(generators) > MAX_GAPS:
        raise TooMany(MAX_GAPS)
    known = orders_to(generators, last_gap(generators) + 1)
    return tuple([number for number, is_known in enumerate(known) if not is_known])


def orders_below(generators, number):
    """All orders below a number, ascending."""
    check_generators(generators)
    check_between(number, 0, MAX_GAPS)
    return tuple([order for order, is_known in enumerate(orders_to(generators, number)) if is_known])


def least_orders(generators):
    """The least orders for each rest by the first generator, ascending."""
    check_generators(generators)
    if generators[0] > MAX_LEAST:
        raise TooMany(MAX_LEAST)
    found = [0]
    for share, generator in zip(shares_along(generators), generators[1:]):
        found = [order + times * generator for times in range(share) for order in found]
    return tuple(sorted(found))


def counts_told(generators):
    """The counts from the origin to the highest corner."""
    check_generators(generators)
    runs = count_runs(exponents_from(generators))
    if many_in_runs(runs) > MAX_TOLD:
        raise TooMany(MAX_TOLD)
    return counts_in_runs(runs)


def letters_between(top, bottom):
    """The letters from a point with unlike orders to the first residue other than 0 that has to come."""
    letters = []
    u, v = bottom, top
    while u != v:
        if v > u:
            letters.append(0)
            v = v - u
        else:
            letters.append(TURN)
            u, v = v, u - v
    return letters + [1]


def word_with(prime, generators):
    """A word of a branch with these generators, as short as there is one."""
    check_prime(prime)
    check_generators(generators)
    exponents = exponents_from(generators)
    if many_in_runs(count_runs(exponents)) >= MAX_WORD:
        raise TooMany(MAX_WORD)
    letters = []
    for top, bottom in division_pairs(exponents):
        letters.extend(letters_between(top, bottom))
    return tuple(letters)


def is_word_with(prime, generators, value):
    """Whether the value is the word of a branch over the prime with these generators."""
    check_prime(prime)
    check_generators(generators)
    return is_word(prime, value) and generators_of(Branch(prime, value)) == generators
