"""[0.19], [11.5] to [11.8], and touchtowers.weight.unloading."""

from itertools import product

from touchtowers.errors import InvalidOperation, InvalidWeights, TooMany
from touchtowers.weight import unloading
from touchtowers.weight.unloading import is_unloading, meet, unload_steps, unloaded
from touchtowers.weight.weights import Weights, single, with_worths
from tests.helpers import CUSP, FEW_PRIMES, SIXTY, SIXTY_ONE, PlainTest, numbers_made, plain
from tests.test_points import near_by_definition
from tests.test_weights import BUSH, NO_WEIGHTS, TOO_LONG, naive_rests, naive_worths, some_weights

FLAT = Weights(3, {(): 1, (0,): 1, (0, -1): 1})
CHAIN = Weights(3, {(0,) * height: -1 for height in range(11)})
SPIRAL = Weights(3, {((0,) + (-1,) * 9)[:height]: 1 for height in range(11)})


def naive_step(table, point):
    """[11.5], word by word: the m, and the weights behind the step; the rest at the point is below 0."""
    near = [other for other in table if near_by_definition(other, point)]
    rest = table[point] - sum(table[other] for other in near)
    m = 0
    while m * (len(near) + 1) < -rest:
        m += 1
    after = {other: table[other] - m if other in near else table[other] for other in table}
    after[point] += m
    return m, after


def unloaded_by(table, pick):
    """The end of unloading, and the steps, if a function picks one of the points with a rest below 0."""
    steps = []
    while True:
        below = [point for point, rest in naive_rests(table).items() if rest < 0]
        if not below:
            return {point: table[point] for point in sorted(table)}, tuple(steps)
        point = pick(below, len(steps))
        m, table = naive_step(table, point)
        steps.append((point, m))


PICKS = (lambda below, _: below[0], lambda below, _: below[-1], lambda below, at: below[at * 7 % len(below)],
         lambda below, at: max(below, key=len))


class UnloadingTest(PlainTest):

    def test_constants(self):
        self.same([unloading.MAX_UNLOADED, unloading.MAX_HIGHEST], [200, 10])

    def test_every_sequence_ends_alike(self):
        # [11.6]
        for prime in (2, 3, 31):
            for weights in some_weights(prime, 40):
                found = unloaded(weights)
                self.same([found.prime, found.points, found.is_let], [prime, weights.points, True])
                for pick in PICKS:
                    table, steps = unloaded_by(weights.table, pick)
                    self.same(found.table, table)
                    self.assertIs(is_unloading(weights, steps), True)
                steps = unload_steps(weights)
                self.assertIs(is_unloading(weights, steps), True)
                self.assertIs(steps == (), weights.is_let)
                self.same(self.walked(weights.table, steps), found.table)
                self.same([unloaded(found).table, unload_steps(found)], [found.table, ()])
                # [11.7]
                self.assertLessEqual(found.conditions, weights.conditions)

    def walked(self, table, steps):
        for point, m in steps:
            self.assertLess(naive_rests(table)[point], 0)
            least, table = naive_step(table, point)
            self.same(m, least)
        return {point: table[point] for point in sorted(table)}

    def test_least_let_weights(self):
        # [11.6]: the values are the least ones of all let weights whose values are at least those of the first ones.
        for points in ([(), (0,)], [(), (0,), (0, -1)], [(), (0,), (1,)], [(), (1,), (1, -1), (1, -1, 0)]):
            let = []
            for worths in product(range(-2, 7), repeat=len(points)):
                weights = with_worths(3, dict(zip(points, worths)))
                if weights.is_let:
                    let.append(weights.worths)
            for worths in product(range(-2, 2), repeat=len(points)):
                found = unloaded(with_worths(3, dict(zip(points, worths)))).worths
                above = [other for other in let if all(other[point] >= worth for point, worth in zip(points, worths))]
                self.same(found, {point: min(other[point] for other in above) for point in sorted(points)})

    def test_monotone(self):
        # [11.7]
        for weights in some_weights(2, 20) + some_weights(3, 20):
            more = {point: worth + at % 3 for at, (point, worth) in enumerate(weights.worths.items())}
            less, great = unloaded(weights).worths, unloaded(with_worths(weights.prime, more)).worths
            self.assertTrue(all(less[point] <= great[point] for point in less))

    def test_single_weights_are_let(self):
        for point in ((), (0,), (0, -1), (1, -1, 0, -1), (0,) * 10):
            self.same([unloaded(single(3, point)).table, unload_steps(single(3, point))], [single(3, point).table, ()])

    def test_judged_steps(self):
        weights = Weights(3, {(): 0, (1,): 3, (1, -1): 2})
        steps = unload_steps(weights)
        self.assertIs(is_unloading(weights, steps), True)
        right = {unloaded_by(weights.table, pick)[1] for pick in PICKS}
        one = min(right)
        wrong = (None, True, 0, "", (), [], list(one), {}, one[:-1], one + (one[-1],), one + (((), 1),), one[1:],
                 (*one[:-1], (one[-1][0], one[-1][1] + 1)), (*one[:-1], (one[-1][0], one[-1][1] - 1)),
                 (*one[:-1], list(one[-1])), (*one[:-1], one[-1][:1]), (*one[:-1], one[-1] + (1,)), (*one[:-1], None),
                 (*one[:-1], (one[-1][0], str(one[-1][1]))), (*one[:-1], (None, 1)), (*one[:-1], ([1], 1)),
                 (*one[:-1], (((1,),), 1)), (*one[:-1], ((2,), 1)), (*one[:-1], (([1],), 1)), (*one[:-1], one[-1][0]), weights)
        self.judges(is_unloading, (weights,), list(right), wrong)
        self.judges(is_unloading, (FLAT,), ((((), 1),),),
                    ((), (((), True),), (((), 0),), (((), 2),), (((), -1),), (((), SIXTY_ONE),), (((0,), 1),), (((), 1), ((0,), 1)),
                     (((), 1), ((), 1)), (((), 1), ((), 0)), ((), 1), ([(), 1],), [((), 1)]))
        letters = Weights(3, {(): 3, (1,): 0, (1, 0): 2})
        self.judges(is_unloading, (letters,), ((((1,), 1),),), ((((True,), 1),), (((1,), True),), (((1,), 1), ((), 1)), ()))
        self.judges(is_unloading, (single(3, (0, -1)),), ((),), ((((), 1),), (((), 0),), None, [], {}, ((),), 0, False))

    def test_origin_alone(self):
        for weight in (-200, -1, 0, 1, 200):
            weights = Weights(2, {(): weight})
            self.same(unloaded(weights).table, {(): max(0, weight)})
            self.same(unload_steps(weights), (((), -weight),) if weight < 0 else ())

    def test_great_weights(self):
        for table in (dict.fromkeys(CHAIN.points, -200), dict.fromkeys(SPIRAL.points, -200), dict.fromkeys(BUSH, -200),
                      {point: 200 if len(point) % 2 else -200 for point in SPIRAL.points}):
            weights = Weights(31, table)
            found = unloaded(weights)
            steps = unload_steps(weights)
            self.same([found.is_let, is_unloading(weights, steps), is_unloading(weights, steps[:-1])], [True, True, False])
            worths = weights.worths
            for point, m in steps:
                worths[point] += m
            self.same(found.worths, worths)
            # In the other sequence the same end comes.
            rest, known = naive_rests(table), naive_worths(table)
            self.assertLess(min(rest.values()), 0)
            self.assertTrue(all(worths[point] >= known[point] for point in known))

    def test_not_true(self):
        # [11.8]
        table = {(): 0, (-1,): -1, (0,): 4, (0, 1): -2}
        self.same({len(unloaded_by(table, pick)[1]) for pick in PICKS}, {4, 5})
        one, other = Weights(3, {(): 0, (0,): 1}), Weights(3, {(): 1, (0,): 0})
        self.assertNotEqual(unloaded(one).plus(unloaded(other)), unloaded(one.plus(other)))

    def test_bounds(self):
        for weight in (200, -200):
            for prime in FEW_PRIMES:
                self.same(unloaded(Weights(prime, {(): 200, (0,): weight})).is_let, True)
        high, higher = {(0,) * height: 1 for height in range(11)}, {(0,) * height: 1 for height in range(12)}
        for call in (unloaded, unload_steps, lambda weights: is_unloading(weights, ())):
            call(Weights(3, high))
            self.raised(TooMany(10), call, Weights(3, higher))
            for weight in (201, -201, SIXTY):
                self.raised(TooMany(200), call, Weights(3, {(): 0, (0,): weight}))
                # The weights are told ahead of the letters.
                self.raised(TooMany(200), call, Weights(3, higher | {(0,) * 11: weight}))
            self.raised(TooMany(200), call, Weights(3, {(): SIXTY}).multiplied(SIXTY))

    def test_refuse(self):
        self.refused(InvalidWeights, unloaded, (FLAT,), 0, NO_WEIGHTS)
        self.refused(InvalidWeights, unload_steps, (FLAT,), 0, NO_WEIGHTS)
        self.refused(InvalidWeights, is_unloading, (FLAT, ()), 0, NO_WEIGHTS)
        self.refused(InvalidWeights, is_unloading, (FLAT, None), 0, NO_WEIGHTS)
        self.refused(InvalidWeights, unloaded, (FLAT,), 0, (TOO_LONG, CUSP))

    def test_nothing_is_changed(self):
        before = plain([FLAT.table, FLAT.rests, FLAT.worths])
        steps = (((), 1),)
        for _ in range(2):
            self.same([unloaded(FLAT).table, unload_steps(FLAT), is_unloading(FLAT, steps)],
                      [{(): 2, (0,): 0, (0, -1): 0}, steps, True])
        self.same(plain([FLAT.table, FLAT.rests, FLAT.worths]), before)


class MeetTest(PlainTest):

    def test_meets(self):
        for prime in (2, 3):
            for one in some_weights(prime, 16):
                made = numbers_made(len(one), 2 * len(one), 9)
                for at in range(2):
                    part = made[at * len(one):(at + 1) * len(one)]
                    other = Weights(prime, {point: entry - 3 for point, entry in zip(one.points, part)})
                    found = meet(one, other)
                    self.same([found.prime, found.points], [prime, one.points])
                    self.same(found.worths, {point: min(one.worths[point], other.worths[point]) for point in one.points})
                    self.assertEqual(found, meet(other, one))
                    # [11.7]
                    self.same(meet(unloaded(one), unloaded(other)).is_let, True)
                self.assertEqual(meet(one, one), one)

    def test_amounts(self):
        one, other = Weights(3, {(): SIXTY, (0,): 0}), Weights(3, {(): 0, (0,): -SIXTY})
        self.same(meet(one, other).worths, {(): 0, (0,): -SIXTY})
        high = Weights(3, {(0,) * height: height for height in range(60)})
        self.assertEqual(meet(high, high), high)

    def test_refuse(self):
        other = Weights(3, {(): 1, (1,): 1})
        self.refused(InvalidWeights, meet, (FLAT, FLAT), 0, NO_WEIGHTS)
        self.refused(InvalidWeights, meet, (FLAT, FLAT), 1, NO_WEIGHTS)
        self.refused(InvalidWeights, meet, (FLAT, None), 0, NO_WEIGHTS)
        self.raised(InvalidOperation, meet, FLAT, other)
        self.raised(InvalidOperation, meet, FLAT, Weights(2, FLAT.table))
        self.raised(InvalidOperation, meet, Weights(3, {(): 1}), Weights(3, {(): 1, (0,): 0}))
