"""Near points, orders of coordinates, counts of branches, and corners."""

from touchtowers.base.numbers import check_between, check_prime
from touchtowers.errors import InvalidPoint
from touchtowers.word.words import TURN, check_branch, check_point, is_point, without_last_zeros

MAX_HEIGHT = 200


def near_points(point):
    """The points that a point is near, the higher one first."""
    if len(point) == 0:
        return ()
    end = without_last_zeros(point)
    if len(end) > 1 and end[-1] == TURN:
        return (point[:-1], end[:-2])
    return (point[:-1],)


def points_near(prime, point):
    """The points that a point is near, the higher one first."""
    check_point(prime, point)
    return near_points(point)


def is_near(prime, one, other):
    """Whether the first point is near the second one."""
    check_point(prime, one)
    check_point(prime, other)
    return other in near_points(one)


def is_corner(prime, point):
    """Whether the point is near two others."""
    return len(points_near(prime, point)) == 2


def orders_before(letter, orders):
    """The orders of the coordinates ahead of a letter, by those behind it."""
    first, second = orders
    if letter == TURN:
        return (None if second is None else first + second, first)
    if letter == 0:
        return (first, None if second is None else first + second)
    return (first, first)


def orders_along(word):
    """The orders of the coordinates at all heights up to the last letter."""
    orders = [(1, None)]
    for letter in reversed(word):
        orders.append(orders_before(letter, orders[-1]))
    return orders[::-1]


def counts_along(word):
    """The counts at all heights up to the last letter; those behind it are 1."""
    return [min([order for order in orders if order is not None]) for orders in orders_along(word)]


def orders_at(branch, height):
    """The orders of both coordinates at the point of a height, None for zero."""
    check_branch(branch)
    check_between(height, 0, MAX_HEIGHT)
    return orders_along(branch.word[height:])[0]


def counts_of(branch, height):
    """The counts at the points of the heights from 0 to this one."""
    check_branch(branch)
    check_between(height, 0, MAX_HEIGHT)
    counts = counts_along(branch.word) + [1] * height
    return tuple(counts[:height + 1])


def count_at(branch, height):
    """The count at the point of a height."""
    return counts_of(branch, height)[-1]


def count_at_point(branch, point):
    """The count at a point, 0 if the branch does not go through it."""
    check_branch(branch)
    return count_at(branch, len(point)) if branch.goes_through(point) else 0


def reduced_counts(branch):
    """The counts from the origin on, up to the first count 1."""
    check_branch(branch)
    # The counts do not increase, so those above 1 stand ahead of all others.
    return tuple([count for count in counts_along(branch.word) if count > 1] + [1])


def count_sums(branch, many):
    """So many sums of the first counts, from the sum of none of them on."""
    check_branch(branch)
    check_between(many, 1, MAX_HEIGHT)
    sums = [0]
    for count in counts_of(branch, many)[:many - 1]:
        sums.append(sums[-1] + count)
    return tuple(sums)


def corners_of(branch):
    """The heights of the corners that the branch goes through, ascending."""
    check_branch(branch)
    # Behind its last letter, which is no turn but for (-1,), a branch goes through no corner.
    heights = range(len(branch) + 1)
    return tuple([height for height in heights if len(near_points(branch.word[:height])) == 2])


def tower_height(branch):
    """The least height from which on all counts are 1 and no point is a corner."""
    special = list(corners_of(branch)) + list(range(len(reduced_counts(branch)) - 1))
    return max([height + 1 for height in special], default=0)


def points_below(prime, points):
    """Some points and all points below them, ascending."""
    check_prime(prime)
    if not isinstance(points, tuple) or not all([is_point(prime, point) for point in points]):
        raise InvalidPoint("not a tuple of points over the prime")
    return tuple(sorted({point[:height] for point in points for height in range(len(point) + 1)}))
