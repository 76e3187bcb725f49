"""[0.21], [14.1] to [14.6], and touchtowers.plait.polynomials."""

from itertools import combinations, product
from math import comb

from touchtowers.curve.curves import Curve
from touchtowers.curve.matchings import matching
from touchtowers.errors import InvalidCurve, InvalidOperation, InvalidOrders, InvalidTable, TooMany
from touchtowers.number.orders import are_generators, generators_of, last_gap, orders_below
from touchtowers.plait import polynomials as module
from touchtowers.plait.plaits import by_plait
from touchtowers.plait.polynomials import (at_one, by_orders, by_tree, factors_by_orders, factors_by_tree, is_polynomial,
                                           joining_number, product_of)
from touchtowers.tree.resolving import crossings, numbers_on
from touchtowers.tree.trees import tree_of
from touchtowers.word.words import Branch
from tests.helpers import (BOW, CUSP, DEEP, FOUR, HOOK, LINE, SIDE, SIXTY, SIXTY_ONE, TALL, PlainTest, numbers_made,
                           small_branches)
from tests.test_curves import LONG, NO_CURVES, SIX, some_curves
from tests.test_matchings import CHAIN, STAR, TWINS
from tests.test_orders import NO_GENERATORS
from tests.test_resolving import TOO_LONG

EXAMPLES = """
>>> [factors_by_tree(Curve((CUSP,))), by_tree(Curve((CUSP,))), factors_by_orders((4, 6, 13)), by_orders((2, 3)), by_orders((1,)), by_tree(Curve((LINE,)))]
[{1: 1, 2: -1, 3: -1, 6: 1}, (1, -1, 1), {1: 1, 4: -1, 6: -1, 12: 1, 13: -1, 26: 1}, (1, -1, 1), (1,), (1,)]
>>> three = Curve((LINE, SIDE, BOW))
>>> [factors_by_tree(three), by_tree(three), at_one(by_tree(three)), joining_number(three), product_of({1: 1, 3: 1})]
[{1: 1, 3: 1}, (1, -1, 0, -1, 1), (2, 3), 3, (1, -1, 0, -1, 1)]
>>> [by_tree(Curve((LINE, CUSP))), at_one(by_tree(Curve((LINE, CUSP)))), factors_by_tree(Curve((CUSP, HOOK)))]
[(-1, 1, 0, -1, 1, 0, -1, 1), (1, 3), {1: 1, 4: -1, 6: -1, 12: 2}]
>>> FIFTH, SLANT = Branch(3, (0, 0, 0, 0, 1)), Branch(3, (1,))
>>> [factors_by_tree(Curve((LINE, CUSP, SLANT))) == factors_by_tree(Curve((LINE, FIFTH, SLANT))) == {1: 1, 11: 1}, joining_number(Curve((LINE, CUSP, SLANT)))]
[True, 11]
>>> product_of({2: 1, 3: -1})
raises InvalidOperation
"""
# Factor tables that have just these roots of 1 as roots, so often: of sixty keys, and of sixty-one.
SIXTY_KEYS = {30: 1, 36: 1, 44: 1, 54: 1, 58: 1, 66: 1, 78: 1, 96: 1, 102: 1, 114: 1, 120: 1, 150: 1, 168: 1, 210: 1}
MORE_KEYS = {3: 3, 8: 1, 36: 1, 54: 1, 66: 1, 78: 1, 96: 1, 102: 1, 114: 1, 120: 1, 138: 1, 150: 1, 168: 1, 210: 1}
# Branches with the Milnor numbers 400 and 402.
OF_400 = Branch(3, (-1, 0, 0, -1, -1, 0, -1, -1, 1))
OF_402 = Branch(3, (0,) * 33 + (-1, -1, 0, 1))
NO_FACTORS = (None, True, 0, "", (), ((1, 1),), [], [(1, 1)], {0: 1}, {-1: 1}, {1: 0}, {1: True}, {1: False}, {True: 1}, {False: 1},
              {"1": 1}, {(1,): 1}, {(): 1}, {None: 1}, {1: None}, {1: "1"}, {1: (1,)}, {1: [1]}, {1: {}}, {1: 1001}, {1: -1001},
              {10001: 1}, {1: 1, 10001: 1}, {SIXTY: 1}, {SIXTY_ONE: 1}, {1: SIXTY}, {1: SIXTY_ONE}, {2: 1, 1: 0}, {1: 1, 2: -1001},
              {n: 1 for n in range(1, 62)}, {n: 1 for n in range(1, 200)}, CUSP, Curve((LINE,)))
NO_POLYNOMIALS = (None, True, False, 0, 1, "", "1", [], [1], {}, {0: 1}, (0,), (1, 0), (0, 0), (True,), (1, True), (False, 1), (1, False),
                  (None,), ("1",), ((1,),), ([1],), (1, SIXTY_ONE), (-SIXTY_ONE, 1), (1, 2, 0), CUSP, (CUSP,))


def mobius(number):
    found = 1
    for divisor in range(2, number + 1):
        if number % divisor == 0:
            number //= divisor
            if number % divisor == 0:
                return 0
            found = -found
    return found


def table_with_roots(roots):
    """The factor table of a polynomial with the roots of 1 of these orders, so often."""
    table = {}
    for order, many in roots.items():
        for number in range(1, order + 1):
            if order % number == 0:
                table[number] = table.get(number, 0) + many * mobius(order // number)
    return {number: table[number] for number in table if table[number]}


def times(one, other):
    entries = [0] * (len(one) + len(other))
    for i, first in enumerate(one):
        for j, second in enumerate(other):
            entries[i + j] += first * second
    while entries and entries[-1] == 0:
        entries.pop()
    return tuple(entries)


def naive_power(number, many):
    found = (1,)
    for _ in range(many):
        found = times(found, (-1,) + (0,) * (number - 1) + (1,))
    return found


def multiplied_out(factors):
    """The products of all factors with exponents above 0, and of all with exponents below 0."""
    found = [(1,), (1,)]
    for number, many in factors.items():
        found[many < 0] = times(found[many < 0], naive_power(number, abs(many)))
    return found


def naive_at_one(polynomial):
    """Division by T - 1 from the greatest power on, as often as nothing is left."""
    many = 0
    while True:
        rest, quotient = list(polynomial), []
        for place in range(len(rest) - 1, 0, -1):
            quotient.append(rest[place])
            rest[place - 1] += rest[place]
        if rest[0] != 0:
            return many, sum(polynomial)
        many, polynomial = many + 1, tuple(reversed(quotient))


def naive_joining(curve):
    """[14.5], over all choices of pairs."""
    table, size, total = curve.touch_table(), len(curve), 0
    for pairs in combinations(list(combinations(range(size), 2)), size - 1):
        reached, weight = {0}, 1
        for _ in range(size):
            reached |= {other for pair in pairs if set(pair) & reached for other in pair}
        for i, j in pairs:
            weight *= table[i][j]
        total += weight if len(reached) == size else 0
    return total


def branches_to_try():
    found = [LINE, SIDE, BOW, CUSP, HOOK, FOUR, TALL, DEEP]
    for prime, most in ((2, 5), (3, 3), (31, 1)):
        found.extend(small_branches(prime, most))
    return found


def curves_to_try():
    found = [Curve((LINE, CUSP)), Curve((CUSP, HOOK)), Curve((LINE, SIDE, BOW)), Curve((FOUR, CUSP, SIDE)), Curve(SIX), STAR, CHAIN, TWINS]
    for prime in (2, 3, 5, 31):
        found.extend(some_curves(prime, 18, 4 if prime == 2 else 2 if prime < 31 else 1))
    return [curve for curve in found if curve.milnor <= 400]


class FactorTest(PlainTest):

    def test_examples(self):
        self.examples(EXAMPLES, dict(vars(module), Curve=Curve, Branch=Branch))

    def test_constants(self):
        self.same([module.MAX_DEGREE, module.MAX_FACTOR, module.MAX_FACTORS], [400, 10000, 60])

    def test_polynomials(self):
        self.judges(is_polynomial, (), ((), (1,), (-1,), (0, 1), (0, 0, -SIXTY), (SIXTY,), (1,) * 2000), NO_POLYNOMIALS)

    def test_products(self):
        self.same([product_of({}), product_of({1: 1}), product_of({2: 1}), product_of({1: 2}), product_of({1: -1, 2: 1})],
                  [(1,), (-1, 1), (-1, 0, 1), (1, -2, 1), (1, 1)])
        made = numbers_made(9, 400, 1000)
        for at in range(0, 400, 8):
            roots = {order % 24 + 1: many % 3 + 1 for order, many in zip(made[at:at + at // 8 % 4], made[at + 4:at + 8])}
            factors = table_with_roots(roots)
            over, under = multiplied_out(factors)
            found = product_of(factors)
            self.same(times(found, under), over)
            self.same(len(found) - 1, sum(number * many for number, many in factors.items()))
            self.same(product_of(dict(reversed(list(factors.items())))), found)

    def test_all_small_tables(self):
        # A quotient is a polynomial exactly if the division leaves nothing.
        for exponents in product((-1, 0, 1, 2), (-1, 0, 1), (-2, -1, 0, 1), (0,), (0,), (-1, 0, 1)):
            factors = {number + 1: many for number, many in enumerate(exponents) if many}
            over, under = multiplied_out(factors)
            rest, quotient = list(over), []
            while len(rest) >= len(under):
                quotient.append(rest[-1])
                for place, entry in enumerate(reversed(under)):
                    rest[-1 - place] -= quotient[-1] * entry
                rest.pop()
            if any(rest):
                self.raised(InvalidOperation, product_of, factors)
            else:
                self.same(product_of(factors), tuple(reversed(quotient)))

    def test_limits(self):
        sixty, more = table_with_roots(SIXTY_KEYS), table_with_roots(MORE_KEYS)
        self.same([len(sixty), len(more)], [60, 61])
        found = product_of(sixty)
        over, under = multiplied_out(sixty)
        self.same([len(found), times(found, under) == over], [399, True])
        self.raised(InvalidTable, product_of, more)
        # Keys far above the degree.
        great = table_with_roots({1260: 1, 420: 1})
        over, under = multiplied_out(great)
        self.same([max(great), len(product_of(great)), times(product_of(great), under) == over], [1260, 385, True])
        self.same([len(product_of({400: 1})), product_of({400: 1})[0]], [401, -1])
        self.raised(TooMany(400), product_of, {401: 1})
        self.raised(TooMany(400), product_of, {10000: 1})
        self.raised(TooMany(400), product_of, {10000: 1000})
        self.same(product_of({1: 400}), tuple((-1) ** power * comb(400, power) for power in range(401)))
        self.raised(InvalidOperation, product_of, {10000: -1})
        self.raised(InvalidOperation, product_of, {1: 1000, 10000: -1000, 5000: 1})
        self.same(product_of({1: -400, 2: 400}), tuple(comb(400, power) for power in range(401)))
        self.raised(TooMany(400), product_of, {1: -1000, 2: 1000})
        self.raised(TooMany(400), product_of, {1: 401})
        self.raised(InvalidOperation, product_of, {1: -1})
        self.raised(InvalidOperation, product_of, {1: 1, 401: -1})
        # A product that is no polynomial, and of a great degree besides.
        self.raised(InvalidOperation, product_of, {7: -1, 10000: 1})
        self.refused(InvalidTable, product_of, ({},), 0, NO_FACTORS)

    def test_at_one(self):
        for polynomial in [(1,), (-1,), (0, 1), (-1, 1), (1, -1), (1, -2, 1), (0, 0, 7), (SIXTY, -SIXTY), (-1, 3, -3, 1), (2, -1, -1),
                           (5, 1), (0, 2, -4, 2), (1, 1, 1, -3), (-2, 1)] + [by_tree(curve) for curve in curves_to_try()[:20]]:
            self.same(at_one(polynomial), naive_at_one(polynomial))
        self.same([at_one(product_of({1: 60})), at_one(product_of({1: 7, 2: 3, 5: 1}))], [(60, 1), (11, 40)])
        self.refused(InvalidTable, at_one, ((1,),), 0, NO_POLYNOMIALS + ((),))


class ManyWaysTest(PlainTest):

    def test_one_polynomial(self):
        # [0.21], [14.3], [14.4]
        for branch in branches_to_try():
            generators, curve = generators_of(branch), Curve((branch,))
            found = by_tree(curve)
            self.same([by_orders(generators), len(found) - 1], [found, curve.milnor])
            self.same(factors_by_orders(generators), factors_by_tree(curve))
            self.same(product_of(factors_by_orders(generators)), found)
            if generators[0] <= 6:
                self.same(by_plait(generators), found)
            self.same(at_one(found), (0, 1))

    def test_orders(self):
        # [14.4]: 1 - T, multiplied by the sum over all orders.
        for generators in ((1,), (2, 3), (2, 401), (3, 7), (4, 6, 13), (6, 8, 27), (11, 41), (8, 12, 26, 53), (6, 9, 22), (5, 101), (17, 26)):
            size = last_gap(generators) + 3
            known = orders_below(generators, size)
            wanted = times((1, -1), [int(number in known) for number in range(size)])[:size]
            while wanted[-1] == 0:
                wanted = wanted[:-1]
            self.same(by_orders(generators), wanted)
            self.same(product_of(factors_by_orders(generators)), wanted)
            self.same(list(factors_by_orders(generators)), sorted(factors_by_orders(generators)))
        self.same([factors_by_orders((1,)), factors_by_orders((2, 3))], [{}, {1: 1, 2: -1, 3: -1, 6: 1}])
        # Keys that come from two places.
        self.same(factors_by_orders((6, 9, 22)), {1: 1, 6: -1, 9: -1, 18: 1, 22: -1, 66: 1})
        self.same(factors_by_orders((4, 6, 13)), {1: 1, 4: -1, 6: -1, 12: 1, 13: -1, 26: 1})

    def test_different_generators(self):
        # [14.6]
        found = [numbers for size in (2, 3) for numbers in combinations(range(2, 20), size) if are_generators(numbers)]
        tables = [str(factors_by_orders(numbers)) for numbers in found]
        self.same(len(set(tables)), len(found))
        self.same(len({by_orders(numbers) for numbers in found if last_gap(numbers) < 100}), sum(last_gap(numbers) < 100 for numbers in found))

    def test_trees(self):
        # [14.3], word by word.
        for curve in curves_to_try():
            numbers, many = numbers_on(curve), crossings(curve)
            tree = tree_of(curve.prime, tuple(numbers))
            wanted = {}
            for node, point in enumerate(numbers):
                wanted[numbers[point]] = wanted.get(numbers[point], 0) + len(tree.beside(node)) + many[point] - 2
            wanted[1] = wanted.get(1, 0) + 1
            wanted = {number: wanted[number] for number in sorted(wanted) if wanted[number]}
            self.same(factors_by_tree(curve), wanted)
            over, under = multiplied_out(wanted)
            found = by_tree(curve)
            self.same(times(found, under), over)
            self.same(len(found) - 1, curve.milnor)

    def test_curves(self):
        # [14.5]
        for curve in curves_to_try():
            found, sign = by_tree(curve), (-1) ** (len(curve) - 1)
            self.same(found[-1], 1)
            self.same(tuple(sign * entry for entry in reversed(found)), found)
            self.same(at_one(found), (len(curve) - 1, naive_joining(curve)))
            self.same(joining_number(curve), naive_joining(curve))

    def test_joining_numbers(self):
        self.same([joining_number(Curve((branch,))) for branch in (LINE, CUSP, OF_402)], [1, 1, 1])
        self.same([joining_number(Curve((CUSP, HOOK))), joining_number(STAR), joining_number(CHAIN)], [6, 6 ** 4, naive_joining(CHAIN)])
        for curve in (Curve(SIX), TWINS, Curve(LONG), TOO_LONG):
            self.same(joining_number(curve), naive_joining(curve))

    def test_limits_of_curves(self):
        two = Curve((Branch(3, ()), OF_400))
        self.same([Curve((OF_400,)).milnor, Curve((OF_402,)).milnor], [400, 402])
        self.same([len(by_tree(Curve((OF_400,)))), by_tree(Curve((OF_400,))) == by_orders((11, 41))], [401, True])
        self.raised(TooMany(400), by_tree, Curve((OF_402,)))
        self.raised(TooMany(400), by_tree, two)
        self.same(factors_by_tree(Curve((OF_402,))), factors_by_orders((4, 135)))
        # Curves of two branches have odd Milnor numbers.
        below, above = [Curve((Branch(3, (0,) * 33 + (-1, 1)), Branch(3, (0,) * 33 + (-1,) + rest))) for rest in ((2,), (1, 1))]
        self.same([below.milnor, above.milnor, len(by_tree(below)), at_one(by_tree(below))], [399, 401, 400, (1, 134)])
        self.raised(TooMany(400), by_tree, above)
        self.same(sum(number * many for number, many in factors_by_tree(above).items()), 401)
        self.same([len(by_orders((2, 401))), len(by_orders((5, 101)))], [401, 401])
        self.raised(TooMany(400), by_orders, (2, 403))
        self.raised(TooMany(400), by_orders, (SIXTY - 1, SIXTY))
        self.same(factors_by_orders((SIXTY - 1, SIXTY)), {1: 1, SIXTY - 1: -1, SIXTY: -1, SIXTY * (SIXTY - 1): 1})
        for call in (factors_by_tree, by_tree):
            self.raised(TooMany(60), call, TOO_LONG)

    def test_not_true(self):
        # [14.6]
        one, other = Curve((LINE, CUSP, Branch(3, (1,)))), Curve((LINE, Branch(3, (0, 0, 0, 0, 1)), Branch(3, (1,))))
        self.same([by_tree(one) == by_tree(other), matching(one, other)], [True, None])
        self.same([by_tree(Curve((LINE, SIDE))), by_tree(Curve((LINE,)))], [(-1, 1), (1,)])
        both = product_of({1: 2, 2: -2, 3: -2, 6: 2})
        self.same([both, both[::-1] == both, sum(both)], [(1, -2, 3, -2, 1), True, 1])
        self.assertNotIn(both, [by_orders(numbers) for numbers in ((2, 5), (2, 3), (3, 4))])

    def test_refuse(self):
        for call in (factors_by_tree, by_tree, joining_number):
            self.refused(InvalidCurve, call, (STAR,), 0, NO_CURVES)
        for call in (factors_by_orders, by_orders):
            self.refused(InvalidOrders, call, ((2, 3),), 0, NO_GENERATORS)
