"""Polynomials in x and y that go through weights."""

from touchtowers.base.numbers import check_between
from touchtowers.base.tables import echelon_of_lines, kernel
from touchtowers.errors import TooMany
from touchtowers.weight.jets import conditions_on, orders_along
from touchtowers.weight.weights import check_weights, worths_of
from touchtowers.word.ways import Plane, check_plane
from touchtowers.word.words import check_point

MAX_THROUGH = 20
MAX_VALUE = 60
MAX_ASKED = 200


def order_at(plane, point):
    """The order of a polynomial at a point, None for zero."""
    check_plane(plane)
    check_point(plane.prime, point)
    if len(plane) == 0:
        return None
    orders = orders_along(plane, point, MAX_ASKED + 1)
    if orders is None:
        raise TooMany(MAX_ASKED)
    order = worths_of({point[:height]: order for height, order in enumerate(orders)})[point]
    if order > MAX_ASKED:
        raise TooMany(MAX_ASKED)
    return order


def check_values(weights, most):
    """Refuse weights with a value that is too great."""
    if any([worth > most for worth in weights.worths.values()]):
        raise TooMany(most)


def is_plane_over(prime, value):
    """Whether the value is a polynomial over the prime."""
    return isinstance(value, Plane) and value.prime == prime


def is_through(weights, value):
    """Whether the value is a polynomial that goes through the weights."""
    check_weights(weights)
    check_values(weights, MAX_ASKED)
    return is_plane_over(weights.prime, value) and len(conditions_on(weights, (value,))) == 0


def check_space(weights, degree):
    """Refuse all but weights and degrees whose spaces are not too great."""
    check_weights(weights)
    check_between(degree, 0, MAX_THROUGH)
    check_values(weights, MAX_VALUE)


def pairs_to_degree(degree):
    """The pairs of exponents of all terms of degrees up to this one, ascending."""
    return [(i, j) for i in range(degree + 1) for j in range(degree + 1 - i)]


def lines_asked(weights, degree):
    """The conditions upon the entries of a polynomial with terms of degrees up to this one, in ascending order."""
    terms = [Plane(weights.prime, {pair: 1}) for pair in pairs_to_degree(degree)]
    return conditions_on(weights, terms)


def conditions(weights, degree):
    """How many conditions polynomials with terms of degrees up to this one have to meet."""
    check_space(weights, degree)
    return len(lines_asked(weights, degree))


def through(weights, degree):
    """A basis of all polynomials through the weights with terms of degrees up to this one."""
    check_space(weights, degree)
    pairs = pairs_to_degree(degree)
    # A line of zeros asks for nothing, but no table is without lines.
    lines = lines_asked(weights, degree) + [(0,) * len(pairs)]
    basis = []
    for entries in kernel(weights.prime, tuple(lines)):
        basis.append(Plane(weights.prime, {pair: entry for pair, entry in zip(pairs, entries) if entry != 0}))
    return tuple(basis)


def are_independent(prime, degree, planes):
    """Whether no sum of the polynomials with residues as factors, not all of them 0, is zero."""
    tables = [plane.table for plane in planes]
    lines = [tuple([table.get(pair, 0) for pair in pairs_to_degree(degree)]) for table in tables]
    return len(lines) == 0 or len(echelon_of_lines(prime, lines)) == len(lines)


def is_basis_through(weights, degree, value):
    """Whether the value is a basis of these polynomials."""
    check_space(weights, degree)
    prime = weights.prime
    if not isinstance(value, tuple) or not all([is_plane_over(prime, plane) for plane in value]):
        return False
    if len(value) != len(pairs_to_degree(degree)) - len(lines_asked(weights, degree)):
        return False
    if any([plane.degree > degree for plane in value]) or not are_independent(prime, degree, value):
        return False
    return len(conditions_on(weights, value)) == 0


def least_plane(weights, degree):
    """A polynomial of these, other than zero, of the least order at the origin, None if there is none."""
    # No sum of some of the basis has an order below all of theirs.
    return min(through(weights, degree), key=lambda plane: plane.order, default=None)
