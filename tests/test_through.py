"""[0.6], [0.19], [12.1] to [12.5], and touchtowers.weight.planes."""

from itertools import combinations, product
from math import comb

from touchtowers.errors import InvalidCount, InvalidOperation, InvalidPlane, InvalidPoint, InvalidWeights, TooMany
from touchtowers.tower.points import count_at_point
from touchtowers.weight import planes as module
from touchtowers.weight.planes import conditions, is_basis_through, is_through, least_plane, order_at, through
from touchtowers.weight.unloading import unloaded
from touchtowers.weight.weights import Weights, single
from touchtowers.word.ways import Plane, order_on
from tests.helpers import (CUSP, NO_INTEGERS, SIXTY, PlainTest, numbers_made, small_branches)
from tests.test_planes import NO_PLANES, ONE, X, Y, ZERO, naive_transformed, reduced, some_planes
from tests.test_points import all_points
from tests.test_weights import LONG_CHAIN, NO_WEIGHTS, some_weights
from tests.test_words import NO_POINTS

EXAMPLES = """
>>> CUSPED = Weights(3, {(): 2, (0,): 1, (0, -1): 1})
>>> EQUATION = Plane(3, {(0, 2): 1, (3, 0): 2})
>>> [order_at(EQUATION, ()), order_at(EQUATION, (0,)), order_at(EQUATION, (0, -1)), order_at(EQUATION, (0, -1, 1)), order_at(EQUATION, (1,)), is_through(CUSPED, EQUATION)]
[2, 3, 6, 7, 2, True]
>>> [conditions(CUSPED, 0), conditions(CUSPED, 1), conditions(CUSPED, 2), conditions(CUSPED, 3), conditions(CUSPED, 9), len(through(CUSPED, 3))]
[1, 3, 5, 5, 5, 5]
>>> [is_basis_through(CUSPED, 2, (Plane(3, {(0, 2): 2}),)), is_basis_through(CUSPED, 2, (Plane(3, {(1, 1): 1}),)), through(CUSPED, 1), is_through(CUSPED, Plane(3, {(1, 1): 1})), is_through(CUSPED, Plane(3, {}))]
[True, False, (), False, True]
>>> BARE = Weights(3, {(): 0, (0,): 2})
>>> [conditions(BARE, 0), conditions(BARE, 1), conditions(BARE, 6), is_through(BARE, Plane(3, {(1, 0): 1})), is_through(BARE, Plane(3, {(0, 1): 1})), is_through(BARE, Plane(3, {(2, 0): 1}))]
[1, 2, 2, False, True, True]
"""
CUSPED = Weights(3, {(): 2, (0,): 1, (0, -1): 1})
EQUATION = Plane(3, {(0, 2): 1, (3, 0): 2})
CORNERS = Weights(2, {(): 1, (0,): 0, (0, -1): 2, (0, -1, -1): 1, (0, -1, 0): 1, (1,): -3, (1, 1): 2})
SUNK = Weights(3, {(): -5, (0,): 3, (0, 1): -10 ** 59, (1,): 4, (1, -1): 3})


def naive_at(plane, point):
    """[12.1]: the table of what a polynomial becomes at a point."""
    table = plane.table
    for letter in point:
        table = naive_transformed(plane.prime, table, letter, 0)
    return table


def naive_order(plane, point):
    return min((i + j for i, j in naive_at(plane, point)), default=None)


def naive_is_through(weights, plane):
    """[12.2], by the orders at all points."""
    orders = [naive_order(plane, point) for point in weights.points]
    return all(order is None or order >= weights.worths[point] for point, order in zip(weights.points, orders))


def naive_rank(prime, lines):
    """The rank of lines, by clearing columns."""
    lines, found = [list(line) for line in lines], 0
    for column in range(len(lines[0]) if lines else 0):
        place = next((at for at in range(found, len(lines)) if lines[at][column]), None)
        if place is None:
            continue
        lines[found], lines[place] = lines[place], lines[found]
        inverse = pow(lines[found][column], -1, prime)
        for at in range(found + 1, len(lines)):
            factor = lines[at][column] * inverse
            lines[at] = [(entry - factor * other) % prime for entry, other in zip(lines[at], lines[found])]
        found += 1
    return found


def terms_to(prime, degree):
    return [Plane(prime, {(i, j): 1}) for i in range(degree + 1) for j in range(degree + 1 - i)]


def naive_conditions(weights, degree):
    """[12.4]: the rank of all entries that have to be 0 at the points."""
    terms = terms_to(weights.prime, degree)
    lines = []
    for point, worth in weights.worths.items():
        tables = [naive_at(term, point) for term in terms]
        pairs = sorted({pair for table in tables for pair in table if sum(pair) < worth})
        lines.extend([table.get(pair, 0) for table in tables] for pair in pairs)
    return naive_rank(weights.prime, lines)


def all_planes(prime, degree):
    """All polynomials with terms of degrees up to this one."""
    pairs = [(i, j) for i in range(degree + 1) for j in range(degree + 1 - i)]
    for entries in product(range(prime), repeat=len(pairs)):
        yield Plane(prime, {pair: entry for pair, entry in zip(pairs, entries) if entry})


def weights_to_try(prime, many):
    """Weights of few and of several points, with weights of 0 and below, and with corners."""
    found = [weights for weights in some_weights(prime, many, 3) if max(weights.worths.values()) <= 40]
    found.append(Weights(prime, {(): 1, (0,): 1, (0, -1): 1, (0, -1, 0): 1, (-1,): 1, (-1, 0): 2}))
    return found + [Weights(prime, {(): 0}), Weights(prime, {(): -4, (1,): -1}), Weights(prime, {(): 3})]


class OrderTest(PlainTest):

    def test_examples(self):
        self.examples(EXAMPLES, dict(vars(module), Weights=Weights))

    def test_constants(self):
        self.same([module.MAX_THROUGH, module.MAX_VALUE, module.MAX_ASKED], [20, 60, 200])

    def test_small_points(self):
        for prime, most, many in ((2, 4, 16), (3, 3, 12), (5, 2, 12), (31, 1, 12)):
            for plane in some_planes(prime, many)[1:]:
                for point in all_points(prime, most):
                    self.same(order_at(plane, point), naive_order(plane, point))

    def test_curved_planes(self):
        # Polynomials that are zero on a branch have great orders along it.
        curve = Plane(5, {(0, 1): 1, (1, 0): 3, (2, 0): 1}).multiplied(Plane(5, {(0, 2): 1, (3, 0): 4}))
        for point in ((2, 4, 0, 0), (2, 4, 0, -1, -1, 1), (0, -1, 1, 0, 0), (0, -1, 1, 0, -1), (0, -1, -1), (0, -1, 0), (4, 1)):
            for height in range(len(point) + 1):
                self.same(order_at(curve, point[:height]), naive_order(curve, point[:height]))

    def test_products(self):
        for prime in (2, 7):
            found = some_planes(prime, 8)[1:]
            for point in ((), (0, 1), (1, -1, 0), (-1, -1, 1)):
                for one in found:
                    for other in found:
                        self.same(order_at(one.multiplied(other), point), order_at(one, point) + order_at(other, point))
                        if len(one.plus(other)):
                            self.assertGreaterEqual(order_at(one.plus(other), point),
                                                    min(order_at(one, point), order_at(other, point)))

    def test_zero(self):
        for point in ((), (0,), (-1, -1), (2,) * 60):
            self.same(order_at(ZERO, point), None)

    def test_limits(self):
        self.same(order_at(Plane(3, {(200, 0): 1}), ()), 200)
        self.same(order_at(Plane(3, {(200, 0): 1, (200, 200): 2}), (1, 1)), 200)
        self.same(order_at(Plane(3, {(100, 0): 1}), (-1,)), 200)
        self.same(order_at(Plane(3, {(50, 0): 2, (0, 200): 1}), (-1, -1, 0)), 200)
        self.same(order_at(Plane(3, {(20, 20): 2}), (0, -1, -1)), 160)
        for plane, point in (({(200, 1): 1}, ()), ({(101, 0): 1}, (-1,)), ({(0, 101): 1}, (0,)), ({(51, 0): 2}, (-1, -1, 0)),
                             ({(200, 200): 2}, (1, 1, 1)), ({(1, 0): 1}, (0,) + (-1,) * 59), ({(4, 0): 1}, (-1,) + (0,) * 59)):
            self.raised(TooMany(200), order_at, Plane(3, plane), point)
        # y is zero on (t, 0), and the numbers of Fibonacci are the orders of x and y.
        self.same([order_at(Y, (0,) * 60), order_at(Y.multiplied(Y).multiplied(Y), (0,) * 60), order_at(X, (0,) * 60)], [61, 183, 1])
        self.same([order_at(X, (0,) + (-1,) * 9), order_at(Y, (0,) + (-1,) * 9)], [89, 144])
        self.same([order_at(X, (0,) + (-1,) * 10), order_at(X, (0,) + (-1,) * 9 + (1,) * 40)], [144, 89])

    def test_great_polynomials(self):
        # No term tells the order of a sum of many terms with great exponents.
        many = {(i, j): (i * 7 + j * 11) % 30 + 1 for i in range(40) for j in range(25)}
        self.same(order_at(Plane(31, many), (7, -1, 3) + (1,) * 57), 0)
        line = Plane(31, {(0, 1): 1, (1, 0): 28, (2, 0): 5})
        power = line.multiplied(line).multiplied(line)
        part = power.multiplied(Plane(31, {(i, j): many[(i, j)] for i in range(12) for j in range(12)}))
        self.same([order_at(part, (3, 26) + (0,) * height) for height in (0, 9, 58)], [9, 36, 183])
        self.raised(TooMany(200), order_at, power.multiplied(line), (3, 26) + (0,) * 58)

    def test_dense_powers(self):
        # No binomial number of this power leaves 0, and all terms but one cancel one another.
        for prime, residue in ((31, 3), (29, 11)):
            power = 3 * prime - 1
            entries = [comb(power, k) * (-residue) ** (power - k) % prime for k in range(power + 1)]
            plane = Plane(prime, {(power - k, k): entry for k, entry in enumerate(entries)})
            self.same([len(plane), order_at(plane, ()), order_at(plane, (residue,)), order_at(plane, (residue, 1))],
                      [power + 1, power, 2 * power, 2 * power])
            self.same(order_at(plane, (residue + 1,)), power)
            self.assertIs(is_through(Weights(prime, {(): power, (residue,): power}), plane), True)
            self.assertIs(is_through(Weights(prime, {(): power, (residue,): power, (residue, 1): 1}), plane), False)

    def test_refuses(self):
        self.refused(InvalidPlane, order_at, (X, ()), 0, NO_PLANES)
        self.refused(InvalidPlane, order_at, (X, None), 0, NO_PLANES)
        self.refused(InvalidPoint, order_at, (X, ()), 1, NO_POINTS)
        self.refused(InvalidPoint, order_at, (ZERO, ()), 1, NO_POINTS)
        self.raised(InvalidPoint, order_at, Plane(2, {(1, 0): 1}), (2,))
        self.refused(InvalidPoint, order_at, (Plane(3, {(200, 200): 1}), ()), 1, NO_POINTS)


class ThroughTest(PlainTest):

    def test_all_small_polynomials(self):
        for prime, degree in ((2, 2), (3, 1)):
            for weights in weights_to_try(prime, 20) + [CORNERS, SUNK][prime - 2:prime - 1]:
                for plane in all_planes(prime, degree):
                    self.assertIs(is_through(weights, plane), naive_is_through(weights, plane))

    def test_more_polynomials(self):
        for prime in (2, 3, 5, 31):
            found = some_planes(prime, 10, 6)
            for weights in weights_to_try(prime, 12):
                for plane in found + list(through(weights, 6))[:3]:
                    self.assertIs(is_through(weights, plane), naive_is_through(weights, plane))

    def test_sums_and_products_go_through(self):
        # [12.2], [12.3]
        for prime in (2, 3, 7):
            found = weights_to_try(prime, 8)
            for weights, other in zip(found, found[1:] + found[:1]):
                one, two = through(weights, 5)[-3:], through(other, 5)[-2:]
                for plane in one:
                    self.assertIs(is_through(weights, plane.plus(one[0])), True)
                    self.assertIs(is_through(weights, plane.multiplied(Plane(prime, {(0, 0): prime - 1, (2, 1): 1}))), True)
                    for second in two:
                        self.assertIs(is_through(weights.plus(other), plane.multiplied(second)), True)

    def test_unloaded(self):
        # [12.3]
        for prime in (2, 3, 31):
            for weights in weights_to_try(prime, 20):
                let = unloaded(weights)
                for degree in (0, 2, 5):
                    self.same(conditions(weights, degree), conditions(let, degree))
                    self.assertIs(is_basis_through(let, degree, through(weights, degree)), True)
                    self.assertIs(is_basis_through(weights, degree, through(let, degree)), True)
                for plane in some_planes(prime, 8, 5):
                    self.assertIs(is_through(weights, plane), is_through(let, plane))

    def test_orders_on_branches(self):
        # [12.3]
        for prime, most in ((2, 3), (3, 2)):
            for weights in weights_to_try(prime, 10):
                for branch in small_branches(prime, most):
                    least = sum(weight * count_at_point(branch, point) for point, weight in weights.table.items())
                    for plane in through(weights, 4)[:4]:
                        order = order_on(plane, branch)
                        self.assertTrue(order is None or order >= least)

    def test_wrong_values(self):
        right = (ZERO, EQUATION, Plane(3, {(2, 1): 1}), Plane(3, {(1, 2): 2, (0, 2): 1}))
        wrong = NO_PLANES + (ONE, X, Y, Plane(2, {}), Plane(2, {(0, 2): 1, (3, 0): 1}), Plane(5, {(0, 2): 1}), (EQUATION,))
        self.judges(is_through, (CUSPED,), right, wrong)
        # Nothing is asked for.
        self.judges(is_through, (Weights(3, {(): 0, (1,): -7}),), right + (ONE, X), NO_PLANES + (Plane(2, {}),))

    def test_limits(self):
        high = Weights(3, {(): 200})
        self.judges(is_through, (high,), (ZERO, Plane(3, {(200, 0): 1, (100, 100): 2})), (Plane(3, {(199, 0): 1}), None))
        self.judges(is_through, (Weights(3, {(): 0, (-1,): 200}),), (Plane(3, {(100, 0): 1}),), (Plane(3, {(99, 1): 1}),))
        chain = Weights(3, {(0,) * height: 3 for height in range(60)})
        self.judges(is_through, (chain,), (Plane(3, {(0, 3): 1}), Plane(3, {(0, 4): 1, (5, 3): 1})),
                    (Plane(3, {(9, 2): 1}), Plane(3, {(100, 1): 1})))
        # The value at the last point is 60 * 29 // 2 below 0.
        self.judges(is_through, (Weights(3, LONG_CHAIN),), (ONE, X, Y), ())
        for value in (None, X, ZERO, Plane(2, {})):
            self.raised(TooMany(200), is_through, Weights(3, {(): 201}), value)
            self.raised(TooMany(200), is_through, Weights(3, {(): 1, (0,): 0, (0, -1): 199, (1,): -SIXTY}), value)
            self.raised(TooMany(200), is_through, Weights(3, {(): SIXTY}), value)
        self.refused(InvalidWeights, is_through, (CUSPED, EQUATION), 0, NO_WEIGHTS)
        self.refused(InvalidWeights, is_through, (CUSPED, None), 0, NO_WEIGHTS)


class SpaceTest(PlainTest):

    def test_conditions(self):
        for prime, degrees in ((2, (0, 1, 3, 5)), (3, (0, 2, 4)), (5, (3,)), (31, (1, 4))):
            for weights in weights_to_try(prime, 16):
                for degree in degrees:
                    self.same(conditions(weights, degree), naive_conditions(weights, degree))
        for degree in range(7):
            self.same(conditions(CORNERS, degree), naive_conditions(CORNERS, degree))
            self.same(conditions(SUNK, degree), naive_conditions(SUNK, degree))

    def test_conditions_of_let_weights(self):
        # [12.4], [0.19]
        for prime in (2, 3, 31):
            for weights in weights_to_try(prime, 40) + [single(prime, (0, -1, -1)), single(prime, (1, 0, 1, 1))]:
                weights = unloaded(weights)
                if max(weights.worths.values()) > 60:
                    continue
                told, total = weights.conditions, sum(weights.table.values())
                for degree in range(min(total + 3, 12)):
                    found = conditions(weights, degree)
                    self.assertLessEqual(found, told)
                    if degree >= total - 1:
                        self.same(found, told)
        self.same(conditions(Weights(3, {(): 20, (1,): 1}), 20), 211)

    def test_great_spaces(self):
        for prime in (29, 31):
            for amounts in ((11, 10), (7, 7, 7), (6, 5, 5, 5), (19, 1, 1), (21, 0)):
                point = (7, 12, 5)
                weights = Weights(prime, {point[:height]: amount for height, amount in enumerate(amounts)})
                basis = through(weights, 20)
                self.same([weights.is_let, conditions(weights, 20), len(basis)], [True, weights.conditions, 231 - weights.conditions])
                for plane in basis[::9]:
                    for below, worth in weights.worths.items():
                        self.assertGreaterEqual(order_at(plane, below), worth)
                self.assertIs(is_basis_through(weights, 20, basis), True)
                self.assertIs(is_basis_through(weights, 20, basis[1:] + (Plane(prime, {(20, 0): 1, (0, 20): 5}),)), False)

    def test_spaces(self):
        for prime in (2, 3, 5, 31):
            for weights in weights_to_try(prime, 12):
                for degree in (0, 1, 4):
                    basis = through(weights, degree)
                    self.assertIsInstance(basis, tuple)
                    self.same(len(basis), (degree + 1) * (degree + 2) // 2 - naive_conditions(weights, degree))
                    for plane in basis:
                        self.assertIs(naive_is_through(weights, plane), True)
                        self.assertLessEqual(plane.degree, degree)
                        self.same(plane.prime, prime)
                    pairs = [(i, j) for i in range(degree + 1) for j in range(degree + 1 - i)]
                    lines = [[plane.table.get(pair, 0) for pair in pairs] for plane in basis]
                    self.same(naive_rank(prime, lines), len(basis))
                    self.assertIs(is_basis_through(weights, degree, basis), True)

    def test_every_basis(self):
        # [0.6], for all tuples of polynomials over 2 of the degree 1, and of as many members of a space.
        for weights in weights_to_try(2, 10) + [Weights(2, {(): 1}), Weights(2, {(): 0, (1,): 1}), Weights(2, {(): 1, (1,): 1})]:
            found = list(all_planes(2, 1))
            members = [plane for plane in found if naive_is_through(weights, plane)]
            size = {1: 0, 2: 1, 4: 2, 8: 3}[len(members)]
            for few in (few for many in range(4) for few in combinations(found, many)):
                sums = set()
                for factors in product((0, 1), repeat=len(few)):
                    tables = [plane.table for plane, factor in zip(few, factors) if factor]
                    total = {pair: sum(table.get(pair, 0) for table in tables) for pair in ((0, 0), (0, 1), (1, 0))}
                    sums.add(tuple(reduced(2, total)))
                right = len(few) == size and len(sums) == len(members) and all(plane in members for plane in few)
                self.assertIs(is_basis_through(weights, 1, few), right)

    def test_wrong_bases(self):
        basis = through(CUSPED, 3)
        self.same(len(basis), 5)
        turned = tuple(reversed(basis))
        doubled = tuple(plane.plus(plane) for plane in basis)
        mixed = (basis[0].plus(basis[1]),) + basis[1:]
        wrong = (None, True, 0, "", (), [], {}, list(basis), dict(enumerate(basis)), basis[0], basis[1:], basis + basis[:1],
                 basis[1:] + (ZERO,), basis[1:] + basis[1:2], (basis[0].plus(basis[1]), basis[0], *basis[1:4]), basis[1:] + (X,),
                 basis[1:] + (None,), basis[1:] + (EQUATION.multiplied(X),), basis[1:] + (Plane(2, {(0, 3): 1}),),
                 tuple(plane.table for plane in basis), (basis,), CUSPED, basis[1:] + (CUSP,))
        self.judges(is_basis_through, (CUSPED, 3), (basis, turned, doubled, mixed), wrong)
        # A space that has zero alone.
        self.judges(is_basis_through, (CUSPED, 1), ((),), (None, False, 0, "", [], {}, (ZERO,), (EQUATION,), (None,)))
        # A member of a greater degree.
        self.judges(is_basis_through, (Weights(3, {(): 0}), 0), ((ONE,), (ONE.plus(ONE),)), ((X,), (ZERO,), (), (ONE, X)))

    def test_least_planes(self):
        for prime, degree in ((2, 3), (3, 1), (2, 0)):
            for weights in weights_to_try(prime, 14):
                orders = [plane.order for plane in all_planes(prime, degree)
                          if len(plane) and naive_is_through(weights, plane)]
                found = least_plane(weights, degree)
                if not orders:
                    self.same(found, None)
                    continue
                self.assertIs(naive_is_through(weights, found), True)
                self.same(found.order, min(orders))
                self.assertLessEqual(found.degree, degree)
        self.same([least_plane(CUSPED, 1), least_plane(CUSPED, 2).table.keys() == {(0, 2)}], [None, True])
        self.same(least_plane(Weights(3, {(): 4, (1,): -9}), 20).order, 4)

    def test_limits(self):
        sixty = Weights(3, {(): 0, (0,): 60})
        many = [conditions(sixty, degree) for degree in (0, 1, 20)]
        self.same(many, [1, 3, 231])
        self.same([through(sixty, 20), least_plane(sixty, 20)], [(), None])
        # All terms but those without y are of great orders along (t, 0).
        chain = Weights(3, {(0,) * height: 1 for height in range(60)})
        self.same([conditions(chain, degree) for degree in (0, 1, 4, 20)], [1, 2, 5, 21])
        low = Weights(3, {(): -SIXTY, (0,): SIXTY, (0, 0): 60})
        self.same(conditions(low, 20), conditions(Weights(3, {(): 0, (0,): 0, (0, 0): 60}), 20))
        nothing = Weights(3, {(): 0, (1,): 0, (-1,): -3})
        self.same([conditions(nothing, 20), len(through(nothing, 20)), least_plane(nothing, 0).order], [0, 231, 0])
        for call in (conditions, through, least_plane, lambda weights, degree: is_basis_through(weights, degree, None)):
            for table in ({(): 61}, {(): 0, (0,): 61}, {(): 30, (0,): 1, (0, -1): 0}, {(): 20, (1,): 41}, {(): SIXTY}):
                self.raised(TooMany(60), call, Weights(3, table), 3)
            self.refused(InvalidCount, call, (CUSPED, 3), 1, NO_INTEGERS + (-1, 21, SIXTY, -SIXTY))
            self.refused(InvalidCount, call, (Weights(3, {(): 61}), 3), 1, NO_INTEGERS + (-1, 21))
            self.refused(InvalidWeights, call, (CUSPED, 3), 0, NO_WEIGHTS)
            self.refused(InvalidWeights, call, (CUSPED, None), 0, NO_WEIGHTS)

    def test_not_true(self):
        # [12.5]
        self.same([order_at(Plane(3, {(3, 0): 1}), ()), CUSPED.worths[()], is_through(CUSPED, Plane(3, {(3, 0): 1}))], [3, 2, True])
        flat = Weights(3, {(): 1, (0,): 1, (0, -1): 1})
        self.same([conditions(flat, 9), flat.conditions], [3, 3])
        bare = Weights(3, {(): 0, (0,): 2})
        self.same([conditions(bare, 9), bare.conditions], [2, 3])
        self.same(order_on(Plane(3, {(2, 1): 1}), CUSP), 7)
        self.same([conditions(CUSPED, degree) for degree in (2, 3)], [5, 5])
