"""[0.19], [11.1] to [11.4], and touchtowers.weight.weights."""

from itertools import product

from touchtowers.errors import InvalidCount, InvalidOperation, InvalidPoint, InvalidPrime, InvalidWeights, TooMany
from touchtowers.tower.points import count_at_point, points_below
from touchtowers.tower.touches import touch
from touchtowers.weight import unloading, weights as module
from touchtowers.weight.unloading import meet, unloaded
from touchtowers.weight.weights import Weights, is_parts, parts_of, single, with_worths
from touchtowers.word.words import Branch
from tests.helpers import (CUSP, DEEP, FEW_PRIMES, FOUR, HOOK, LINE, NO_INTEGERS, SIDE, SIXTY, SIXTY_ONE, TALL, PlainTest,
                           numbers_made, plain)
from tests.test_curves import some_curves
from tests.test_points import near_by_definition
from tests.test_words import NO_POINTS

EXAMPLES = """
>>> POINT = (0, -1)
>>> [single(3, POINT).table, single(3, (0, -1, 1)).table, single(3, POINT).worths]
[{(): 2, (0,): 1, (0, -1): 1}, {(): 2, (0,): 1, (0, -1): 1, (0, -1, 1): 1}, {(): 2, (0,): 3, (0, -1): 6}]
>>> weights = Weights(3, {(): 1, (0,): 1, (0, -1): 1})
>>> [weights.rests, weights.is_let, weights.worths, parts_of(weights), weights.touch_with(single(3, (0,)))]
[{(): -1, (0,): 0, (0, -1): 1}, False, {(): 1, (0,): 2, (0, -1): 4}, {(): -1, (0, -1): 1}, 2]
>>> [unloaded(weights).table, unload_steps(weights), is_unloading(weights, (((), 1), ((0,), 1))), unloaded(weights).worths]
[{(): 2, (0,): 0, (0, -1): 0}, (((), 1),), False, {(): 2, (0,): 2, (0, -1): 4}]
"""
CUSPED = Weights(3, {(): 2, (0,): 1, (0, -1): 1})
ZERO = Weights(3, {(): 0})
LONG_CHAIN = {(0,) * height: height - 30 for height in range(60)}
# Chains of 60 points with one more, a bush of 60 points, and the same with one more.
TOO_LONG = {(0,) * height: 1 for height in range(61)}
BUSH = {(): 5} | {(letter,): letter for letter in range(-1, 31)} | {(0, letter): 1 for letter in range(-1, 26)}
# No tables of weights over 3.
NO_WEIGHT_TABLES = (None, True, 0, "", (), ((), 1), (((), 1),), [], [((), 1)], CUSP, ZERO, {}, {(0,): 1}, {(0, -1): 1},
                    {(): 1, (0, -1): 1}, {(): 1, (0,): 1, (0, -1, 1): 1}, {(): True}, {(): False}, {(): None}, {(): "1"},
                    {(): (1,)}, {(): [1]}, {(): SIXTY_ONE}, {(): -SIXTY_ONE}, {(): 1, (0,): True}, {(): 1, (3,): 1},
                    {(): 1, (-2,): 1}, {(): 1, (True,): 1}, {(): 1, (False,): 1}, {(): 1, ("0",): 1}, {(): 1, ((),): 1},
                    {(): 1, 0: 1}, {0: 1}, {"": 1}, {".": 1}, {None: 1}, {(): 1, None: 1}, {(): 1, "0": 1}, {(): {}},
                    TOO_LONG, {(0,) * height: 1 for height in range(62)})
NO_WEIGHTS = tuple(value for value in NO_WEIGHT_TABLES if value is not ZERO) + ({(): 1}, {(): 2, (0,): 1}, InvalidWeights("x"))


def some_tables(prime, many, most=4):
    """Tables of weights, the same at each run, with weights below 0 among them."""
    made = numbers_made(prime * 11 + many, many * 40, 997)
    found = []
    for at in range(many):
        part = made[40 * at:40 * at + 40]
        points = {()}
        for step in part[:at % 16]:
            below = sorted(points)[step % len(points)]
            if len(below) < most + 2:
                points.add(below + ((step // 31) % (prime + 1) - 1,))
        found.append({point: entry % 9 - 3 for point, entry in zip(sorted(points, reverse=True), part[16:])})
    return found


def some_weights(prime, many, most=4):
    return [Weights(prime, table) for table in some_tables(prime, many, most)]


def naive_rests(table):
    return {point: table[point] - sum(table[other] for other in table if near_by_definition(other, point))
            for point in sorted(table)}


def naive_worths(table):
    worths = {}
    for point in sorted(table, key=len):
        worths[point] = table[point] + sum(worths[other] for other in table if near_by_definition(point, other))
    return {point: worths[point] for point in sorted(table)}


class WeightsTest(PlainTest):

    def test_examples(self):
        self.examples(EXAMPLES, dict(vars(unloading), **vars(module)))

    def test_constant(self):
        self.same(module.MAX_POINTS, 60)

    def test_made(self):
        for prime in FEW_PRIMES:
            for table in some_tables(prime, 30) + [{(): 0}, {(): -SIXTY, (prime - 1,): SIXTY}]:
                weights = Weights(prime, table)
                wanted = {point: table[point] for point in sorted(table)}
                self.same([weights.prime, weights.table, weights.points], [prime, wanted, tuple(wanted)])
                self.same([list(weights), len(weights)], [list(wanted), len(wanted)])
                self.same([weights.rests, weights.worths], [naive_rests(table), naive_worths(table)])
                self.assertIs(weights.is_let, min(naive_rests(table).values()) >= 0)
                self.same(weights.lacked, sum(weight * (weight - 1) // 2 for weight in table.values()))
                self.same(weights.conditions, sum(weight * (weight + 1) // 2 for weight in table.values()))
                for point in wanted:
                    self.same(weights.at(point), table[point])
                self.same(weights.at((prime - 1,) * 7), 0)

    def test_numbers_of_points(self):
        one = Weights(3, {(): -7})
        self.same([len(one), one.rests, one.worths, one.is_let, one.lacked, one.conditions],
                  [1, {(): -7}, {(): -7}, False, 28, 21])
        chain = Weights(3, LONG_CHAIN)
        self.same([len(chain), chain.rests[()], chain.worths[(0,) * 59]], [60, -1, sum(range(-30, 30))])
        self.same(len(Weights(31, BUSH)), 60)
        self.raised(InvalidWeights, Weights, 3, TOO_LONG)
        self.raised(InvalidWeights, Weights, 31, BUSH | {(0, 26): 0})

    def test_refuses(self):
        self.refuses_primes(Weights, {(): 1})
        self.refuses_primes(Weights, None)
        self.refused(InvalidWeights, Weights, (3, {(): 1}), 1, NO_WEIGHT_TABLES)
        self.refuses_primes(with_worths, {(): 1})
        self.refuses_primes(with_worths, None)
        self.refused(InvalidWeights, with_worths, (3, {(): 1}), 1, NO_WEIGHT_TABLES)

    def test_shares_nothing(self):
        table = {(): 2, (0,): 1}
        weights = Weights(3, table)
        table[(1,)] = 1
        table[()] = 9
        for given in (weights.table, weights.rests, weights.worths, parts_of(weights)):
            given[()] = 77
            given[(2,)] = 5
        self.same([weights.table, weights.rests, weights.worths], [{(): 2, (0,): 1}, {(): 1, (0,): 1}, {(): 2, (0,): 3}])
        for name in ("prime", "table", "points", "rests", "worths", "is_let", "lacked", "conditions"):
            with self.assertRaises(AttributeError):
                setattr(weights, name, 1)
        weights.plus(weights), weights.multiplied(3), unloaded(weights), meet(weights, weights)
        self.same(weights.table, {(): 2, (0,): 1})

    def test_let(self):
        for weights in some_weights(2, 40) + some_weights(3, 40):
            if weights.is_let:
                self.assertGreaterEqual(min(weights.table.values()), 0)
        # [11.8]
        flat = Weights(3, {(): 1, (0,): 1, (0, -1): 1})
        self.assertIs(flat.is_let, False)
        self.same([single(3, (0,)).is_let, Weights(3, {(): 1, (0,): 1, (1,): 1}).is_let], [True, False])

    def test_sums(self):
        for prime in (2, 3, 31):
            found = some_weights(prime, 12)
            for one in found:
                for other in found:
                    points = sorted({*one.points, *other.points})
                    wanted = {point: one.table.get(point, 0) + other.table.get(point, 0) for point in points}
                    self.same(one.plus(other).table, wanted)
                    self.same(one.touch_with(other), sum(one.table[point] * other.table.get(point, 0) for point in one))
                    self.same(one.touch_with(other), other.touch_with(one))
                for many in (0, 1, -2, 7, SIXTY):
                    self.same(one.multiplied(many).table, {point: many * one.table[point] for point in one.points})
        # Points that one of both does not have.
        self.same(Weights(3, {(): 1, (1,): 2}).plus(Weights(3, {(): 3, (0,): 4})).table, {(): 4, (0,): 4, (1,): 2})
        self.same(Weights(3, {(): 1, (1,): 2}).touch_with(Weights(3, {(): 3, (0,): 4})), 3)

    def test_long_results(self):
        great = Weights(3, {(): SIXTY, (0,): -SIXTY})
        square = great.multiplied(SIXTY)
        self.same(square.table, {(): SIXTY * SIXTY, (0,): -SIXTY * SIXTY})
        self.same(square.rests, {(): 2 * SIXTY * SIXTY, (0,): -SIXTY * SIXTY})
        self.same(square.plus(great).at(()), SIXTY * SIXTY + SIXTY)
        self.same(square.touch_with(great), 2 * SIXTY ** 3)
        self.same(square.multiplied(2).worths, {(): 2 * SIXTY * SIXTY, (0,): 0})
        self.same([parts_of(square), is_parts(square, parts_of(square))], [square.rests, True])
        self.same(with_worths(3, {(): -SIXTY, (0,): SIXTY}).table, {(): -SIXTY, (0,): 2 * SIXTY})
        self.same(meet(square, great).worths, {(): SIXTY, (0,): 0})

    def test_operations_refuse(self):
        other = Weights(2, {(): 1})
        for call in (CUSPED.plus, CUSPED.touch_with):
            self.refused(InvalidWeights, call, (CUSPED,), 0, NO_WEIGHTS)
            self.raised(InvalidOperation, call, other)
        self.refused(InvalidCount, CUSPED.multiplied, (1,), 0, NO_INTEGERS)
        self.refused(InvalidPoint, CUSPED.at, ((),), 0, NO_POINTS)
        self.raised(InvalidPoint, other.at, (2,))

    def test_sums_of_many_points(self):
        chain = Weights(3, LONG_CHAIN)
        self.same(chain.plus(chain).table, {point: 2 * weight for point, weight in LONG_CHAIN.items()})
        self.same(len(chain.plus(Weights(3, {(): 1, (0,): 1}))), 60)
        self.raised(TooMany(60), chain.plus, Weights(3, {(): 1, (1,): 1}))
        self.raised(TooMany(60), Weights(3, {(): 1, (1,): 1}).plus, chain)
        self.raised(InvalidOperation, Weights(2, {(): 1, (1,): 1}).plus, chain)
        self.same(chain.touch_with(Weights(3, {(): 1, (1,): 1})), -30)

    def test_members_and_equality(self):
        weights = Weights(3, {(): 2, (0,): 1, (1,): 0})
        self.judges(lambda value: value in weights, (), ((), (0,), (1,)),
                    [(2,), (0, 0), (True,), (False,), None, 0, "", [], [0], {}, ((),), ([],), ([0],), weights] + list(NO_POINTS))
        found = [Weights(prime, table) for prime in (2, 3) for table in ({(): 1}, {(): 2}, {(): 1, (0,): 0}, {(): 1, (1,): 0})]
        for at, one in enumerate(found):
            for other_at, other in enumerate(found):
                self.assertIs(one == other, at == other_at)
                self.assertIs(one != other, at != other_at)
            for value in NO_WEIGHTS:
                self.assertIs(one == value, False)
                self.assertIs(one != value, True)
        self.assertIs(Weights(3, {(0,): 1, (): 2}) == Weights(3, {(): 2, (0,): 1}), True)


class SingleTest(PlainTest):

    def test_singles(self):
        for prime, most in ((2, 4), (3, 3), (31, 1)):
            for length in range(most + 1):
                for point in product(range(-1, prime), repeat=length):
                    weights = single(prime, point)
                    self.same([weights.prime, weights.points], [prime, points_below(prime, (point,))])
                    self.same(weights.at(point), 1)
                    self.same(weights.rests, {below: 1 if below == point else 0 for below in weights.points})
                    self.same(naive_rests(weights.table), weights.rests)

    def test_long_points(self):
        numbers = [1, 1]
        while len(numbers) < 60:
            numbers.append(numbers[-1] + numbers[-2])
        top = (0,) + (-1,) * 58
        self.same(list(single(3, top).table.values()), numbers[::-1])
        self.same(len(single(2, (0,) * 59)), 60)
        self.raised(TooMany(60), single, 2, (0,) * 60)
        self.refuses_primes(single, ())
        self.refuses_primes(single, None)
        self.refused(InvalidPoint, single, (3, ()), 1, NO_POINTS)

    def test_values_by_singles(self):
        # [11.3]
        for weights in some_weights(2, 24) + some_weights(3, 24):
            for point in weights.points:
                one = single(weights.prime, point)
                self.same(weights.worths[point], weights.touch_with(one))
                for other in weights.points:
                    two = single(weights.prime, other)
                    self.same(one.touch_with(two), two.touch_with(one))
                    self.assertGreater(one.touch_with(two), 0)
                    if other in one:
                        self.same(one.worths[other], one.touch_with(two))

    def test_touches_with_let_weights(self):
        # [11.4], over the points of the let ones
        for one in some_weights(2, 16):
            for other in some_weights(2, 16):
                both = one.plus(other.multiplied(0)), other.plus(one.multiplied(0))
                total = sum(both[1].rests[point] * both[0].worths[point] for point in both[0].points)
                self.same(one.touch_with(other), total)

    def test_weights_of_curves(self):
        # [11.3]
        for curve in some_curves(2, 12, 3) + some_curves(3, 6, 2):
            points = points_below(curve.prime, tuple(branch.point_at(4) for branch in curve.branches))
            weights = [Weights(curve.prime, {point: count_at_point(branch, point) for point in points})
                       for branch in curve.branches]
            for one, first in zip(curve.branches, weights):
                for other, second in zip(curve.branches, weights):
                    if one != other:
                        self.same(first.touch_with(second), touch(one, other))


class PartsTest(PlainTest):

    def test_parts(self):
        # [11.2]: the single ones, added up.
        for prime in (2, 3, 31):
            for weights in some_weights(prime, 30):
                parts = parts_of(weights)
                self.same(parts, {point: rest for point, rest in weights.rests.items() if rest != 0})
                total = weights.multiplied(0)
                for point, many in parts.items():
                    total = total.plus(single(prime, point).multiplied(many))
                self.assertEqual(total, weights)
                self.assertIs(is_parts(weights, parts), True)
                self.assertIs(is_parts(weights, {point: parts[point] for point in reversed(list(parts))}), True)
                self.assertIs(is_parts(weights, dict(parts) | {(): parts.get((), 0) + 1}), False)
                self.assertIs(weights.is_let, all(many > 0 for many in parts.values()))

    def test_wrong_parts(self):
        weights = Weights(3, {(): 3, (1,): 1, (1, 0): 0})
        self.same(parts_of(weights), {(): 2, (1,): 1})
        wrong = (None, True, 0, "", (), [], {}, {(): 2}, {(1,): 1}, {(): 2, (1,): 1, (1, 0): 0}, {(): 2, (1,): True},
                 {(): 2, (True,): 1}, {(): 2, (1,): 1, (0,): 0}, {(): 1, (1,): 1}, {(): 2, (1,): 2}, {(): "2", (1,): 1},
                 {(): 2, 1: 1}, {(): 2, "1": 1}, {None: 2, (1,): 1}, {(): 2, (1,): None}, {(): 2, (1,): (1,)},
                 {(): 2, ((1,),): 1}, [((), 2), ((1,), 1)], {(): 2, (1,): 1, None: 1}, weights)
        self.judges(is_parts, (weights,), ({(): 2, (1,): 1}, {(1,): 1, (): 2}), wrong)
        self.judges(is_parts, (ZERO,), ({},), ({(): 0}, None, (), {(): False}))
        for call in (parts_of, lambda value: is_parts(value, {})):
            self.refused(InvalidWeights, call, (ZERO,), 0, NO_WEIGHTS)

    def test_worths(self):
        for prime in (2, 3, 31):
            for table in some_tables(prime, 30):
                self.same(with_worths(prime, Weights(prime, table).worths).table, {point: table[point] for point in sorted(table)})
                self.same(with_worths(prime, table).worths, {point: table[point] for point in sorted(table)})
        self.assertEqual(with_worths(3, {(): 2, (0,): 3, (0, -1): 6}), CUSPED)
        self.raised(InvalidPrime, with_worths, 4, {(): None})

    def test_named_branches(self):
        # [0.15] on all points that count.
        for one in (CUSP, HOOK, FOUR, TALL, DEEP, LINE, SIDE):
            points = points_below(3, (one.point_at(8),))
            weights = Weights(3, {point: count_at_point(one, point) for point in points})
            self.same(weights.is_let, True)
            self.same(weights.lacked, sum(weight * (weight - 1) // 2 for weight in weights.table.values()))
            for other in (Branch(3, (0, 2)), Branch(3, (1, -1, 2)), Branch(3, (0, -1, 1, 1))):
                counts = Weights(3, {point: count_at_point(other, point) for point in points})
                self.same(weights.touch_with(counts), touch(one, other))
