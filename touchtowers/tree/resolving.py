"""The least points of curves, and the numbers on their exceptional curves."""

from touchtowers.curve.curves import check_curve
from touchtowers.errors import TooMany
from touchtowers.tower.points import counts_of, near_points
from touchtowers.tree.trees import MAX_NODES, check_full
from touchtowers.weight.weights import worths_of
from touchtowers.word.words import MAX_LETTERS


def points_along(branch):
    """The points of all heights that a branch goes through."""
    return [branch.point_at(height) for height in range(MAX_LETTERS + 1)]


def counts_on(curve):
    """The dict from the points of all heights that branches of a curve go through to the counts of the curve."""
    counts = {}
    for branch in curve.branches:
        for point, count in zip(points_along(branch), counts_of(branch, MAX_LETTERS)):
            counts[point] = counts.get(point, 0) + count
    return counts


def is_corner_point(point):
    """Whether a point is a corner."""
    return len(near_points(point)) == 2


def least_on(branch, counts):
    """The least points of a curve, with these counts, that one of its branches tells, ascending by height."""
    points = points_along(branch)
    # No point of the greatest height is a least one: the branches have parted, and no corners come any more.
    return [point for point, above in zip(points, points[1:])
            if len(point) == 0 or counts[point] > 1 or is_corner_point(point) or is_corner_point(above)]


def least_points(curve):
    """The least points, ascending."""
    check_curve(curve)
    counts = counts_on(curve)
    points = sorted({point for branch in curve.branches for point in least_on(branch, counts)})
    if len(points) > MAX_NODES:
        raise TooMany(MAX_NODES)
    return tuple(points)


def crossings(curve):
    """The dict from the least points, ascending, to how many branches cross their exceptional curves."""
    many = {point: 0 for point in least_points(curve)}
    for branch in curve.branches:
        highest = [point for point in points_along(branch) if point in many][-1]
        many[highest] = many[highest] + 1
    return many


def numbers_on(curve):
    """The dict from the least points, ascending, to their numbers N."""
    points = least_points(curve)
    counts = counts_on(curve)
    return worths_of({point: counts[point] for point in points})


def numbers_of_k(prime, points):
    """The dict from the points of a full tuple, ascending, to their numbers K."""
    check_full(prime, points)
    return worths_of({point: 1 for point in points})
