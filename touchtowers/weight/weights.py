"""Weights: integers on points, with all points below them."""

from touchtowers.base.numbers import are_whole, check_equal_primes, check_prime, is_integer, is_whole
from touchtowers.errors import InvalidCount, InvalidWeights, TooMany
from touchtowers.tower.points import near_points
from touchtowers.word.words import check_point, is_point

MAX_POINTS = 60


def are_points_with_integers(prime, value):
    """Whether the value is a dict from points to integers."""
    if not isinstance(value, dict):
        return False
    return all([is_point(prime, point) and is_integer(weight) for point, weight in value.items()])


def is_weight_table(prime, value):
    """Whether the value is the table of weights."""
    if not are_points_with_integers(prime, value) or not 1 <= len(value) <= MAX_POINTS:
        return False
    return all([point[:-1] in value for point in value])


def ascending(table):
    """The dict with its keys ascending."""
    return {point: table[point] for point in sorted(table)}


def rests_of(table):
    """The dict from the points of weights to their rests, ascending."""
    rests = {point: table[point] for point in sorted(table)}
    for point in table:
        for lower in near_points(point):
            rests[lower] = rests[lower] - table[point]
    return rests


def worths_of(table):
    """The dict from the points of weights to their values, ascending."""
    worths = {}
    # The points that a point is near stand ahead of it.
    for point in sorted(table):
        worths[point] = table[point] + sum([worths[lower] for lower in near_points(point)])
    return worths


def weights_of(worths):
    """The dict from the points of weights to their weights, by their values."""
    return {point: worth - sum([worths[lower] for lower in near_points(point)]) for point, worth in worths.items()}


class Weights:
    """Weights on points. They never change."""

    def __init__(self, prime, table):
        check_prime(prime)
        if not is_weight_table(prime, table):
            raise InvalidWeights("not a dict from points, with all below them, to integers")
        self._prime = prime
        self._table = ascending(table)

    @property
    def prime(self):
        """The prime of the weights."""
        return self._prime

    @property
    def table(self):
        """The dict from the points to their weights, ascending."""
        return ascending(self._table)

    @property
    def points(self):
        """The tuple of the points, ascending."""
        return tuple(self._table)

    @property
    def rests(self):
        """The dict from the points to their rests, ascending."""
        return rests_of(self._table)

    @property
    def worths(self):
        """The dict from the points to their values, ascending."""
        return worths_of(self._table)

    @property
    def is_let(self):
        """Whether no rest is below 0."""
        rests = rests_of(self._table)
        return all([rests[point] >= 0 for point in rests])

    @property
    def lacked(self):
        """The sum of w * (w - 1) // 2 over all weights w."""
        return sum([weight * (weight - 1) // 2 for weight in self._table.values()])

    @property
    def conditions(self):
        """The sum of w * (w + 1) // 2 over all weights w."""
        return sum([weight * (weight + 1) // 2 for weight in self._table.values()])

    def at(self, point):
        """The weight of a point, 0 if they do not have it."""
        check_point(self._prime, point)
        return self._table.get(point, 0)

    def plus(self, other):
        """The sum of both, with all points of both."""
        check_weights(other)
        check_equal_primes(self, other)
        points = sorted(set(self._table) | set(other._table))
        if len(points) > MAX_POINTS:
            raise TooMany(MAX_POINTS)
        return made_weights(self._prime, {point: self.at(point) + other.at(point) for point in points})

    def multiplied(self, many):
        """Each weight multiplied by an integer."""
        if not is_integer(many):
            raise InvalidCount(many)
        return made_weights(self._prime, {point: many * weight for point, weight in self._table.items()})

    def touch_with(self, other):
        """The sum of the products of the weights over all points that both have."""
        check_weights(other)
        check_equal_primes(self, other)
        return sum([weight * other.at(point) for point, weight in self._table.items()])

    def __len__(self):
        return len(self._table)

    def __contains__(self, x):
        return is_point(self._prime, x) and x in self._table

    def __iter__(self):
        return iter(self._table)

    def __eq__(self, other):
        return isinstance(other, Weights) and self._prime == other._prime and self._table == other._table


def made_weights(prime, table):
    """The weights with a table whose integers may be of any length."""
    made = Weights(prime, {(): 0})
    # Results may be longer than what can be passed.
    made._table = ascending(table)
    return made


def check_weights(weights):
    """Refuse all but weights."""
    if not isinstance(weights, Weights):
        raise InvalidWeights("not weights")


def single(prime, point):
    """The weights that have the rest 1 at a point, and the rest 0 at all points below it."""
    check_point(prime, point)
    if len(point) >= MAX_POINTS:
        raise TooMany(MAX_POINTS)
    points = [point[:height] for height in range(len(point) + 1)]
    table = {below: 0 for below in points}
    table[point] = 1
    for top in points[::-1]:
        for lower in near_points(top):
            table[lower] = table[lower] + table[top]
    return made_weights(prime, table)


def parts_by_rests(weights):
    """The dict from the points with a rest other than 0 to the rests, ascending."""
    return {point: rest for point, rest in weights.rests.items() if rest != 0}


def parts_of(weights):
    """How often the single weights of each point are in a sum that makes the weights."""
    check_weights(weights)
    return parts_by_rests(weights)


def is_parts(weights, value):
    """Whether the value tells how often single weights are in such a sum."""
    check_weights(weights)
    if not isinstance(value, dict):
        return False
    # True is equal to 1, but is none.
    if not all([are_whole(point) and is_whole(rest) for point, rest in value.items()]):
        return False
    return value == parts_by_rests(weights)


def with_worths(prime, table):
    """The weights with the points of a dict, and with its integers as their values."""
    return made_weights(prime, weights_of(Weights(prime, table).table))
