"""How often branches touch one another."""

from math import gcd

from touchtowers.base.numbers import check_equal_primes
from touchtowers.base.rows import check_row
from touchtowers.errors import InvalidCurve, InvalidOperation
from touchtowers.number.orders import generators_of
from touchtowers.tower.points import count_at, counts_of
from touchtowers.word.words import MAX_LETTERS, Branch, check_branch, shared_height

MAX_BRANCHES = 6


def touch(one, other):
    """The touch of two branches, None if they are equal."""
    height = shared_height(one, other)
    if height is None:
        return None
    counts, other_counts = counts_of(one, height - 1), counts_of(other, height - 1)
    return sum([count * factor for count, factor in zip(counts, other_counts)])


def touch_points(one, other):
    """The triples of a point that both go through and of the counts there, ascending by height."""
    height = shared_height(one, other)
    if height is None:
        raise InvalidOperation("the branches are equal")
    points = [one.point_at(below) for below in range(height)]
    return tuple(zip(points, counts_of(one, height), counts_of(other, height)))


def contact(one, other):
    """The touch divided by both counts at the origin, as a reduced fraction, None if the branches are equal."""
    top = touch(one, other)
    if top is None:
        return None
    bottom = count_at(one, 0) * count_at(other, 0)
    divisor = gcd(top, bottom)
    return (top // divisor, bottom // divisor)


def are_branches(value):
    """Whether the value is a tuple of one to six branches."""
    if not isinstance(value, tuple) or not 1 <= len(value) <= MAX_BRANCHES:
        return False
    return all([isinstance(entry, Branch) for entry in value])


def are_unlike_branches(value):
    """Whether the value is a tuple of one to six different branches over one prime."""
    if not are_branches(value) or not all([branch.prime == value[0].prime for branch in value]):
        return False
    return len({branch.word for branch in value}) == len(value)


def touch_rows(branches):
    """The touches of each one of some branches with all of them."""
    return tuple([tuple([touch(one, other) for other in branches]) for one in branches])


def touches(branches):
    """The touches of each one of a tuple of branches with all of them."""
    if not are_branches(branches):
        raise InvalidCurve("not a tuple of one to six branches")
    return touch_rows(branches)


def lacked_alone(branch):
    """What a branch lacks, by its counts."""
    return sum([count * (count - 1) // 2 for count in counts_of(branch, len(branch))])


def lacked_together(branches):
    """What different branches over one prime lack together, by their counts and touches."""
    pairs = [touch(branch, other) for at, branch in enumerate(branches) for other in branches[:at]]
    return sum([lacked_alone(branch) for branch in branches]) + sum(pairs)


def smooth_branch(row):
    """The branch that has the way (t, row)."""
    check_row(row)
    if row.entry(0) != 0 or row.degree > MAX_LETTERS:
        raise InvalidOperation("the row has a term of the power 0, or too great a degree")
    return Branch(row.prime, row.entries[1:])


def smooth_touch(branch, row):
    """The touch of a branch with the smooth branch of a row, None if they are equal."""
    check_branch(branch)
    smooth = smooth_branch(row)
    check_equal_primes(branch, smooth)
    return touch(branch, smooth)


def smooth_touches(branch):
    """All touches of a branch that is not smooth with smooth branches, ascending."""
    generators = generators_of(branch)
    if len(generators) == 1:
        raise InvalidOperation("the branch is smooth")
    first, last = generators[:2]
    return tuple(range(first, last, first)) + (last,)
