"""Integer polynomials of curves, by trees and by orders, and the number that joins the branches of a curve."""

from touchtowers.base.numbers import is_between, is_integer
from touchtowers.curve.curves import check_curve
from touchtowers.errors import InvalidOperation, InvalidTable, TooMany
from touchtowers.number.exponents import shares_along
from touchtowers.number.orders import check_generators, lacked_by_orders, orders_to
from touchtowers.plait.integers import determinant_of, product_of_powers
from touchtowers.tree.resolving import crossings, numbers_on
from touchtowers.tree.trees import tree_of

MAX_DEGREE = 400
MAX_FACTOR = 10000
MAX_FACTORS = 60

MAX_EXPONENT = 1000


def is_polynomial(value):
    """Whether the value is a polynomial."""
    if not isinstance(value, tuple) or not all([is_integer(entry) for entry in value]):
        return False
    return len(value) == 0 or value[-1] != 0


def is_exponent(value):
    """Whether the value may stand in a factor table."""
    return is_between(value, -MAX_EXPONENT, MAX_EXPONENT) and value != 0


def is_factor_table(value):
    """Whether the value is a factor table that is not too great."""
    if not isinstance(value, dict) or len(value) > MAX_FACTORS:
        return False
    return all([is_between(number, 1, MAX_FACTOR) and is_exponent(exponent) for number, exponent in value.items()])


def makes_polynomial(factors):
    """Whether the product that a factor table stands for is a polynomial."""
    for divisor in range(1, max(list(factors), default=0) + 1):
        # How often the roots of this order are roots of the product.
        if sum([exponent for number, exponent in factors.items() if number % divisor == 0]) < 0:
            return False
    return True


def product_of(factors):
    """The polynomial for which a factor table stands."""
    if not is_factor_table(factors):
        raise InvalidTable("not a factor table")
    if not makes_polynomial(factors):
        raise InvalidOperation("the product is no polynomial")
    if sum([number * exponent for number, exponent in factors.items()]) > MAX_DEGREE:
        raise TooMany(MAX_DEGREE)
    return product_of_powers(factors)


def divided_by_root(polynomial):
    """The quotient of a polynomial by T - 1, which divides it."""
    entries = []
    rest = 0
    for entry in reversed(polynomial[1:]):
        rest = rest + entry
        entries.append(rest)
    return entries[::-1]


def at_one(polynomial):
    """How often T - 1 divides a polynomial, and the value at 1 of what is left."""
    if not is_polynomial(polynomial) or len(polynomial) == 0:
        raise InvalidTable("not a polynomial other than zero")
    rest = polynomial
    many = 0
    while sum(rest) == 0:
        rest = divided_by_root(rest)
        many = many + 1
    return (many, sum(rest))


def without_zeros(sums):
    """The dict without the keys of 0, ascending."""
    return {number: sums[number] for number in sorted(sums) if sums[number] != 0}


def factors_by_tree(curve):
    """The factor table of a curve, by its tree."""
    numbers = numbers_on(curve)
    many = crossings(curve)
    tree = tree_of(curve.prime, tuple(numbers))
    sums = {1: 1}
    for node, (point, number) in enumerate(numbers.items()):
        sums[number] = sums.get(number, 0) + len(tree.beside(node)) + many[point] - 2
    return without_zeros(sums)


def by_tree(curve):
    """The polynomial of a curve, by its tree."""
    factors = factors_by_tree(curve)
    if curve.milnor > MAX_DEGREE:
        raise TooMany(MAX_DEGREE)
    return product_of_powers(factors)


def factors_by_orders(generators):
    """The factor table of a branch with these generators."""
    check_generators(generators)
    sums = {1: 1}
    sums[generators[0]] = sums.get(generators[0], 0) - 1
    for share, generator in zip(shares_along(generators), generators[1:]):
        sums[generator] = sums.get(generator, 0) - 1
        sums[share * generator] = sums.get(share * generator, 0) + 1
    return without_zeros(sums)


def by_orders(generators):
    """The polynomial of a branch with these generators, by its orders."""
    # From the last gap on all terms but one cancel one another.
    degree = 2 * lacked_by_orders(generators)
    if degree > MAX_DEGREE:
        raise TooMany(MAX_DEGREE)
    known = [int(is_known) for is_known in orders_to(generators, degree + 1)]
    return tuple([entry - before for entry, before in zip(known, [0] + known)])


def joining_number(curve):
    """The sum, over all ways to join all branches by one pair less than there are branches, of products of touches."""
    check_curve(curve)
    table = curve.touch_table()
    # All such ways are told by the determinant of a table with these sums on its diagonal, without one line and column.
    lines = []
    for place, line in enumerate(table):
        entries = [0 if touch is None else -touch for touch in line]
        entries[place] = -sum(entries)
        lines.append([(entry,) for entry in entries[1:]])
    return sum(determinant_of(lines[1:]))
