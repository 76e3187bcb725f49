"""Unloading: how weights become let ones."""

from touchtowers.base.numbers import are_whole, check_equal_primes, is_whole
from touchtowers.errors import InvalidOperation, TooMany
from touchtowers.tower.points import near_points
from touchtowers.weight.weights import check_weights, made_weights, rests_of, weights_of

MAX_UNLOADED = 200
MAX_HIGHEST = 10


def check_amounts(weights):
    """Refuse all but weights that can be unloaded in not too many steps."""
    check_weights(weights)
    if any([abs(weight) > MAX_UNLOADED for weight in weights.table.values()]):
        raise TooMany(MAX_UNLOADED)
    if any([len(point) > MAX_HIGHEST for point in weights.points]):
        raise TooMany(MAX_HIGHEST)


def changes_at(points, point):
    """The pairs of the index of a point and of what its rest grows by, if weights are unloaded at a point by 1."""
    table = {other: -1 if point in near_points(other) else 0 for other in points}
    table[point] = 1
    rests = rests_of(table)
    return [(index, rests[other]) for index, other in enumerate(points) if rests[other] != 0]


class Load:
    """The rests of weights on their way to let ones, by the indices of the points."""

    def __init__(self, weights):
        points = weights.points
        rests = weights.rests
        self._rests = [rests[point] for point in points]
        self._effects = [changes_at(points, point) for point in points]
        self._shares = [1 + len([other for other in points if point in near_points(other)]) for point in points]

    def amount_at(self, index):
        """The amount to unload by at a point, 0 if its rest is not below 0."""
        rest = self._rests[index]
        return -(rest // self._shares[index]) if rest < 0 else 0

    def unload_at(self, index, amount):
        """Unload at a point."""
        for other, change in self._effects[index]:
            self._rests[other] = self._rests[other] + amount * change

    def unload_once(self):
        """Unload at each point, ascending, where the rest is below 0 then; the pairs of its index and the amount."""
        steps = []
        for index in range(len(self._rests)):
            amount = self.amount_at(index)
            if amount > 0:
                self.unload_at(index, amount)
                steps.append((index, amount))
        return steps

    def is_done(self):
        """Whether the weights are let."""
        return all([rest >= 0 for rest in self._rests])


def steps_to_end(weights):
    """The pairs of the index of a point and of an amount that lead to the let weights, a list."""
    load = Load(weights)
    steps = []
    while not load.is_done():
        steps.extend(load.unload_once())
    return steps


def unloaded(weights):
    """The let weights to which unloading leads."""
    check_amounts(weights)
    points = weights.points
    worths = weights.worths
    for index, amount in steps_to_end(weights):
        worths[points[index]] = worths[points[index]] + amount
    return made_weights(weights.prime, weights_of(worths))


def unload_steps(weights):
    """Steps that lead to the let weights, pairs of a point and an amount."""
    check_amounts(weights)
    points = weights.points
    return tuple([(points[index], amount) for index, amount in steps_to_end(weights)])


def is_step(value):
    """Whether the value looks like a step."""
    return isinstance(value, tuple) and len(value) == 2 and are_whole(value[0]) and is_whole(value[1])


def is_unloading(weights, value):
    """Whether the value is a row of steps that leads to the let weights."""
    check_amounts(weights)
    if not isinstance(value, tuple):
        return False
    indices = {point: index for index, point in enumerate(weights.points)}
    load = Load(weights)
    for step in value:
        if not is_step(step) or step[0] not in indices:
            return False
        index = indices[step[0]]
        amount = load.amount_at(index)
        if amount == 0 or step[1] != amount:
            return False
        load.unload_at(index, amount)
    return load.is_done()


def meet(one, other):
    """The weights with the lesser one of both values at each point."""
    check_weights(one)
    check_weights(other)
    check_equal_primes(one, other)
    if one.points != other.points:
        raise InvalidOperation("the points are not equal")
    worths, other_worths = one.worths, other.worths
    least = {point: min(worths[point], other_worths[point]) for point in worths}
    return made_weights(one.prime, weights_of(least))
