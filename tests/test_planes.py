"""[4.5], the class Plane, and values and orders of polynomials on branches."""

from math import comb

from touchtowers.base.rows import Row
from touchtowers.errors import InvalidCount, InvalidOperation, InvalidPlane, InvalidPoint, InvalidWord, TooMany
from touchtowers.tower.points import count_at
from touchtowers.word.ways import Plane, order_on, value_on, way_degree
from touchtowers.word.words import Branch
from tests.helpers import (CUSP, DEEP, FEW_PRIMES, FOUR, HOOK, LINE, NO_INTEGERS, SIDE, SIXTY, SIXTY_ONE, WILD,
                           PlainTest, numbers_made, small_branches)
from tests.test_rows import naive_product, naive_sum
from tests.test_ways import NO_BRANCHES, OF_400, OF_401, naive_way

ZERO, ONE, X, Y = Plane(3, {}), Plane(3, {(0, 0): 1}), Plane(3, {(1, 0): 1}), Plane(3, {(0, 1): 1})
TALLEST = {(i, j): 1 for i in range(40) for j in range(25)}
# No tables over 3.
NO_TABLES = (None, True, 0, 1, "", (), ((0, 0),), (((0, 0), 1),), [], [(0, 0)], CUSP, ZERO,
             {(0, 0): 0}, {(0, 0): 3}, {(0, 0): -1}, {(0, 0): True}, {(0, 0): False}, {(0, 0): "1"}, {(0, 0): None},
             {(0, 0): (1,)}, {(0, 0): [1]}, {(0, 0): SIXTY}, {(0, 0): SIXTY_ONE}, {0: 1}, {"00": 1}, {"": 1}, {(): 1},
             {None: 1}, {(0,): 1}, {(0, 0, 0): 1}, {(-1, 0): 1}, {(0, -1): 1}, {(201, 0): 1}, {(0, 201): 1},
             {(True, 0): 1}, {(0, True): 1}, {(False, 1): 1}, {("0", 0): 1}, {(0, None): 1}, {((0,), 0): 1},
             {(SIXTY, 0): 1}, {(0, SIXTY_ONE): 1}, {(0, 0): 1, (1, 1): 0}, {(0, 0): 1, 7: 1}, {(0, 0): 1, "x": 1},
             TALLEST | {(40, 0): 1})
NO_PLANES = tuple(value for value in NO_TABLES if value is not ZERO) + ({}, {(1, 0): 1}, Row(3, (0, 1)), "x")


def some_planes(prime, many, most=4):
    """Polynomials, the same at each run; zero is the first one."""
    made = numbers_made(prime * 7 + most, many * 24, 1000000)
    found = []
    for at in range(many):
        part = made[24 * at:24 * at + 3 * (at % 8)]
        table = {}
        for place in range(0, len(part), 3):
            table[(part[place] % most, part[place + 1] % most)] = part[place + 2] % (prime - 1) + 1
        found.append(Plane(prime, table))
    return found


def reduced(prime, table):
    return {pair: table[pair] % prime for pair in sorted(table) if table[pair] % prime}


def naive_terms(prime, one, other, call):
    """Sums over all pairs of exponents that one of both has."""
    pairs = set(one) | set(other)
    return reduced(prime, {pair: call(one.get(pair, 0), other.get(pair, 0)) for pair in pairs})


def naive_multiplied(prime, one, other):
    table = {}
    for (i, j), entry in one.items():
        for (k, m), factor in other.items():
            table[(i + k, j + m)] = table.get((i + k, j + m), 0) + entry * factor
    return reduced(prime, table)


def naive_transformed(prime, table, letter, weight):
    """What the section says, with the binomial coefficients."""
    found = {}
    for (i, j), entry in table.items():
        if letter == -1:
            found[(i + j - weight, i)] = entry
            continue
        for k in range(j + 1):
            pair = (i + j - weight, k)
            found[pair] = found.get(pair, 0) + entry * comb(j, k) * letter ** (j - k)
    return reduced(prime, found)


def naive_value(prime, table, branch):
    x, y = naive_way(branch)
    total = ()
    for (i, j), entry in table.items():
        term = (entry,)
        for part in (x,) * i + (y,) * j:
            term = naive_product(prime, term, part)
        total = naive_sum(prime, total, term)
    return total


class PlaneTest(PlainTest):

    def test_made(self):
        for prime in FEW_PRIMES:
            top = prime - 1
            for table in ({}, {(0, 0): top}, {(200, 200): 1}, {(0, 200): top, (200, 0): 1, (0, 0): 1}, TALLEST):
                plane = Plane(prime, table)
                self.same(plane.table, {pair: table[pair] for pair in sorted(table)})
                sums = [i + j for i, j in table]
                self.same((plane.prime, len(plane)), (prime, len(table)))
                self.same(plane.degree, max(sums) if sums else -1)
                self.same(plane.order, min(sums) if sums else None)

    def test_refuses(self):
        self.refuses_primes(Plane, {})
        self.refuses_primes(Plane, None)
        self.refused(InvalidPlane, Plane, (3, {}), 1, NO_TABLES)
        self.raised(InvalidPlane, Plane, 2, {(0, 0): 2})
        self.same(len(Plane(3, TALLEST)), 1000)

    def test_shares_nothing(self):
        table = {(1, 0): 2, (0, 1): 1}
        plane = Plane(3, table)
        table[(0, 0)] = 1
        plane.table[(5, 5)] = 1
        del plane.table[(0, 1)]
        self.same(plane.table, {(0, 1): 1, (1, 0): 2})
        for name in ("prime", "table", "degree", "order"):
            with self.assertRaises(AttributeError):
                setattr(plane, name, 1)
        self.raised(TypeError, iter, plane)
        before = plane.table
        plane.plus(plane), plane.multiplied(plane), plane.transformed(1, 1), plane.minus(plane)
        self.same(plane.table, before)

    def test_equal(self):
        found = [Plane(prime, table) for prime in (2, 3) for table in ({}, {(0, 0): 1}, {(1, 0): 1}, {(0, 1): 1},
                                                                    {(1, 0): 1, (0, 1): 1})]
        for at, one in enumerate(found):
            for other_at, other in enumerate(found):
                self.assertIs(one == other, at == other_at)
                self.assertIs(one != other, at != other_at)
        self.assertIs(Plane(3, {(1, 0): 1, (0, 1): 2}) == Plane(3, {(0, 1): 2, (1, 0): 1}), True)
        self.assertIs(Plane(3, {(1, 0): 1}) == Plane(3, {(1, 0): 2}), False)
        for value in NO_PLANES:
            self.assertIs(X == value, False)
            self.assertIs(X != value, True)
            self.assertIs(ZERO == value, False)

    def test_sums_and_products(self):
        for prime in FEW_PRIMES:
            found = some_planes(prime, 14)
            for one in found:
                for other in found:
                    first, second = one.table, other.table
                    self.same(one.plus(other).table, naive_terms(prime, first, second, lambda a, b: a + b))
                    self.same(one.minus(other).table, naive_terms(prime, first, second, lambda a, b: a - b))
                    self.same(one.multiplied(other).table, naive_multiplied(prime, first, second))
                    self.same(one.multiplied(other).prime, prime)
                self.same(one.minus(one).table, {})

    def test_two_planes_refuse(self):
        for call in (X.plus, X.minus, X.multiplied, ZERO.plus, ZERO.multiplied):
            self.refused(InvalidPlane, call, (X,), 0, NO_PLANES)
            self.raised(InvalidOperation, call, Plane(2, {(1, 0): 1}))
            self.raised(InvalidOperation, call, Plane(2, {}))
        self.raised(InvalidOperation, Plane(2, {(200, 0): 1}).multiplied, Plane(3, {(1, 0): 1}))

    def test_limits_of_sums_and_products(self):
        full, more = Plane(3, TALLEST), Plane(3, {(40, 0): 1})
        self.raised(TooMany(1000), full.plus, more)
        self.raised(TooMany(1000), full.minus, more)
        self.raised(TooMany(1000), full.multiplied, Plane(3, {(0, 0): 1, (40, 0): 1}))
        # A pair that leaves makes room for another one.
        self.same(len(full.minus(Plane(3, {(0, 0): 1, (40, 0): 1}))), 1000)
        self.same(len(full.plus(Plane(3, {(0, 0): 2, (40, 0): 1}))), 1000)
        high = Plane(3, {(200, 0): 1, (0, 200): 1})
        self.same(high.multiplied(ONE).table, high.table)
        self.same(high.multiplied(ZERO).table, {})
        self.same(Plane(3, {(100, 100): 2}).multiplied(Plane(3, {(100, 100): 2})).table, {(200, 200): 1})
        self.raised(TooMany(200), high.multiplied, X)
        self.raised(TooMany(200), high.multiplied, Y)
        # Both limits are passed: the exponents are told first.
        self.raised(TooMany(200), full.multiplied, Plane(3, {(i, 0): 1 for i in range(170)}))
        self.raised(TooMany(1000), full.multiplied, Plane(3, {(0, 0): 1, (161, 176): 1}))
        self.raised(TooMany(200), full.multiplied, Plane(3, {(0, 0): 1, (162, 176): 1}))
        self.raised(TooMany(200), full.multiplied, Plane(3, {(0, 0): 1, (161, 177): 1}))

    def test_transformed(self):
        for prime in FEW_PRIMES:
            for plane in some_planes(prime, 16, 6):
                top = plane.order if len(plane) else 200
                for letter in (-1, 0, 1, prime - 1):
                    for weight in {0, top // 2, top}:
                        found = plane.transformed(letter, weight)
                        self.same(found.prime, prime)
                        self.same(found.table, naive_transformed(prime, plane.table, letter, weight))
        self.same(Plane(3, {(200, 200): 1}).transformed(-1, 200).table, {(200, 200): 1})
        self.same(Plane(3, {(200, 200): 1}).transformed(0, 400).table, {(0, 200): 1})
        self.same(Plane(3, {(0, 81): 1}).transformed(2, 81).table, {(0, 0): 2, (0, 81): 1})

    def test_transformed_refuses(self):
        self.refused(InvalidPoint, X.transformed, (0, 0), 0, NO_INTEGERS + (-2, 3, SIXTY, -SIXTY))
        self.refused(InvalidPoint, X.transformed, (0, None), 0, NO_INTEGERS + (-2, 3, SIXTY, -SIXTY))
        self.refused(InvalidCount, X.transformed, (0, 0), 1, NO_INTEGERS + (-1, 2, SIXTY, -SIXTY))
        self.refused(InvalidCount, ONE.transformed, (-1, 0), 1, NO_INTEGERS + (-1, 1))
        self.refused(InvalidCount, ZERO.transformed, (-1, 0), 1, NO_INTEGERS + (-1, 201))
        self.refused(InvalidCount, Plane(3, {(200, 200): 1}).transformed, (0, 0), 1, (401,))

    def test_limits_of_transformed(self):
        mixed = Plane(3, {(1, 0): 1, (200, 1): 1})
        self.same(mixed.transformed(0, 1).table, {(0, 0): 1, (200, 1): 1})
        for letter in (-1, 0, 2):
            self.raised(TooMany(200), mixed.transformed, letter, 0)
            self.raised(InvalidCount(2), mixed.transformed, letter, 2)
        many = Plane(2, {(i, 127): 1 for i in range(7)})
        self.same(len(many.transformed(1, 127)), 7 * 128)
        self.raised(TooMany(1000), Plane(2, {(i, 127): 1 for i in range(8)}).transformed, 1, 127)
        self.same(len(Plane(2, {(i, 127): 1 for i in range(8)}).transformed(0, 127)), 8)
        both = Plane(2, {(i, 127): 1 for i in range(100)})
        self.raised(TooMany(200), both.transformed, 1, 0)
        self.raised(TooMany(1000), both.transformed, 1, 127)


class ValuesTest(PlainTest):

    def test_values(self):
        for prime, most in ((2, 4), (3, 3), (5, 2), (31, 1)):
            for branch in small_branches(prime, most):
                for plane in some_planes(prime, 9):
                    value = value_on(plane, branch)
                    self.same((value.prime, value.entries), (prime, naive_value(prime, plane.table, branch)))
                    self.same(order_on(plane, branch), value.order)

    def test_orders_of_sums_and_products(self):
        # [4.5]
        for branch in (LINE, SIDE, CUSP, HOOK, FOUR):
            found = some_planes(3, 10)
            for one in found:
                for other in found:
                    orders = [order_on(plane, branch) for plane in (one, other)]
                    product_order, sum_order = order_on(one.multiplied(other), branch), order_on(one.plus(other), branch)
                    if None in orders:
                        self.same(product_order, None)
                        continue
                    self.same(product_order, sum(orders))
                    self.assertTrue(sum_order is None or sum_order >= min(orders))

    def test_orders_by_letters(self):
        # [4.5]
        for prime in (2, 3, 5):
            for branch in small_branches(prime, 3):
                for plane in some_planes(prime, 10)[1:]:
                    order = order_on(plane, branch)
                    if order is None:
                        continue
                    total, part = 0, plane
                    for height in range(12):
                        total += part.order * count_at(branch, height)
                        part = part.transformed(branch.letter_at(height), part.order)
                    self.same((total, part.order), (order, 0))

    def test_zero(self):
        for branch in (LINE, CUSP, DEEP):
            self.same((value_on(ZERO, branch).entries, order_on(ZERO, branch)), ((), None))
        self.same(value_on(Plane(3, {(0, 200): 1}), LINE).entries, ())
        self.same(order_on(Plane(3, {(0, 2): 1, (3, 0): 2}), CUSP), None)

    def test_limits(self):
        cusp = Branch(5, (0, -1, 1))
        # The way of the cusp has the degree 3: polynomials of degrees of at most 300 may be put on it.
        self.same(value_on(Plane(5, {(150, 150): 2, (100, 200): 1}), cusp).entries, (0,) * 750 + (2,) + (0,) * 49 + (1,))
        steep = Branch(5, (-1, -1, 1))
        self.same(order_on(Plane(5, {(200, 100): 3}), steep), 800)
        for plane in (Plane(5, {(200, 101): 1}), Plane(5, {(101, 200): 1, (0, 0): 1})):
            self.raised(TooMany(900), value_on, plane, cusp)
            self.raised(TooMany(900), order_on, plane, cusp)
        self.same(order_on(Plane(5, {(200, 200): 1}), Branch(5, (1,))), 400)
        self.same(order_on(Plane(5, {(1, 1): 1, (0, 0): 2}), Branch(5, OF_400)), 0)
        self.raised(TooMany(900), value_on, Plane(5, {(1, 2): 1}), Branch(5, OF_400))
        for plane in (Plane(5, {}), Plane(5, {(0, 0): 1}), Plane(5, {(200, 200): 1})):
            self.raised(TooMany(400), value_on, plane, Branch(5, OF_401))
            self.raised(TooMany(400), order_on, plane, Branch(5, OF_401))
        self.same(way_degree(cusp), 3)

    def test_refuse(self):
        for call in (value_on, order_on):
            self.refused(InvalidPlane, call, (X, CUSP), 0, NO_PLANES)
            self.refused(InvalidPlane, call, (X, None), 0, NO_PLANES)
            self.refused(InvalidWord, call, (X, CUSP), 1, NO_BRANCHES)
            self.raised(InvalidOperation, call, X, WILD)
            # Unlike primes are told ahead of ways that are too great.
            self.raised(InvalidOperation, call, X, Branch(5, OF_401))
