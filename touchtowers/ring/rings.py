"""The rings of branches, told by ranks of tables."""

from touchtowers.base.numbers import check_between, is_between
from touchtowers.base.rows import Row
from touchtowers.base.series import least_power, padded
from touchtowers.base.tables import echelon_of_lines, solution
from touchtowers.errors import InvalidCurve, InvalidOperation, TooMany
from touchtowers.number.orders import generators_of, is_order
from touchtowers.ring.cuts import cut_powers, cut_product, cut_value, cut_way, ring_lines
from touchtowers.tower.points import count_at, count_sums, orders_at
from touchtowers.tower.touches import are_unlike_branches, lacked_alone, lacked_together, touch
from touchtowers.word.ways import Plane
from touchtowers.word.words import check_branch, check_branches

MAX_LACKED = 60
MAX_SIZE = 130


def check_ring(branches):
    """Refuse all but one to six different branches over one prime."""
    if not are_unlike_branches(branches):
        raise InvalidCurve("not a tuple of one to six different branches over one prime")


def check_lacked(branches):
    """Refuse branches that lack too much together."""
    if lacked_together(branches) > MAX_LACKED:
        raise TooMany(MAX_LACKED)


def are_sizes(branches, value):
    """Whether the value is a tuple of a size for each branch."""
    if not isinstance(value, tuple) or len(value) != len(branches):
        return False
    return all([is_between(size, 1, MAX_SIZE) for size in value])


def conductor_by_touches(branches):
    """The conductor of some branches."""
    rows = [[touch(one, other) for other in branches if other != one] for one in branches]
    return tuple([2 * lacked_alone(one) + sum(row) for one, row in zip(branches, rows)])


def embedded(line, sizes, wider):
    """A line cut at sizes, with zeros in the columns up to wider sizes."""
    found = []
    start = 0
    for size, wide in zip(sizes, wider):
        found.extend(padded(line[start:start + size], wide))
        start = start + size
    return tuple(found)


def lines_beyond(sizes, wider):
    """The lines that have one entry 1 in a column beyond the sizes, up to wider ones."""
    total = sum(wider)
    found = []
    start = 0
    for size, wide in zip(sizes, wider):
        columns = range(start + size, start + wide)
        found.extend([(0,) * column + (1,) + (0,) * (total - column - 1) for column in columns])
        start = start + wide
    return found


def table_of_ring(branches, sizes):
    """The table of the ring of branches that do not lack too much."""
    # From the conductor on, each column has a line of its own.
    inner = [min(size, least) for size, least in zip(sizes, conductor_by_touches(branches))]
    lines = [embedded(line, inner, sizes) for line in ring_lines(branches, inner)]
    # The further left its first entry stands, the greater is a line.
    return tuple(sorted(lines + lines_beyond(inner, sizes), reverse=True))


def ring_table(branches, sizes):
    """The table of the ring, cut at sizes."""
    check_ring(branches)
    if not are_sizes(branches, sizes):
        raise InvalidOperation("not a size for each branch")
    check_lacked(branches)
    return table_of_ring(branches, sizes)


def rank_lacking(branches):
    """How many columns more than lines the ring has, cut at the conductor."""
    sizes = conductor_by_touches(branches)
    return sum(sizes) - len(ring_lines(branches, sizes))


def lacked_by_rank(branches):
    """What the ring lacks."""
    check_ring(branches)
    check_lacked(branches)
    return rank_lacking(branches)


def conductor_of(branches):
    """The conductor of the ring."""
    check_ring(branches)
    check_lacked(branches)
    return conductor_by_touches(branches)


def are_rows(branches, value):
    """Whether the value is a tuple of a row for each branch, over their prime."""
    if not isinstance(value, tuple) or len(value) != len(branches):
        return False
    return all([isinstance(row, Row) and row.prime == branches[0].prime for row in value])


def is_in_ring(branches, value):
    """Whether the value is an element of the ring, told by rows."""
    check_ring(branches)
    check_lacked(branches)
    if not are_rows(branches, value):
        return False
    sizes = conductor_by_touches(branches)
    lines = ring_lines(branches, sizes)
    line = [entry for row, size in zip(value, sizes) for entry in padded(row.entries, size)]
    return len(echelon_of_lines(branches[0].prime, [*lines, line])) == len(lines)


def orders_by_rank(branch, most):
    """The orders of the elements of the ring of a branch that are below a bound, ascending."""
    check_branch(branch)
    check_between(most, 1, MAX_SIZE)
    check_lacked((branch,))
    return tuple([least_power(line) for line in table_of_ring((branch,), (most,))])


def touch_by_rank(one, other):
    """What the ring of both branches lacks more than those of each one."""
    check_branches(one, other)
    if one == other:
        raise InvalidOperation("the branches are equal")
    check_lacked((one, other))
    return rank_lacking((one, other)) - rank_lacking((one,)) - rank_lacking((other,))


def pairs_to(branch, order):
    """Pairs of exponents that are enough to make every order up to this one."""
    least = count_at(branch, 0)
    most = order // least
    # An equation of the branch leaves so many powers of one coordinate, whatever stands at the other one.
    pairs = [(i, j) for i in range(most + 1) for j in range(min(least, most + 1))]
    return pairs if orders_at(branch, 0)[0] == least else [(j, i) for i, j in pairs]


def plane_with(branch, order):
    """A polynomial in x and y with this order at the branch."""
    check_branch(branch)
    check_between(order, 0, MAX_SIZE)
    if not is_order(generators_of(branch), order):
        raise InvalidOperation("no element of the ring has this order")
    check_lacked((branch,))
    prime, size = branch.prime, order + 1
    pairs = pairs_to(branch, order)
    x, y = cut_way(branch, size)
    x_powers = cut_powers(prime, x, max([i for i, j in pairs]), size)
    y_powers = cut_powers(prime, y, max([j for i, j in pairs]), size)
    values = [cut_product(prime, x_powers[i], y_powers[j], size) for i, j in pairs]
    factors = solution(prime, list(zip(*values)), [0] * order + [1])
    return Plane(prime, {pair: factor for pair, factor in zip(pairs, factors) if factor != 0})


def is_plane_with(branch, order, value):
    """Whether the value is a polynomial in x and y with this order at the branch."""
    check_branch(branch)
    check_between(order, 0, MAX_SIZE)
    if not isinstance(value, Plane) or value.prime != branch.prime:
        return False
    return least_power(cut_value(value, branch, order + 1)) == order


def closed_orders(branch, many):
    """The first orders of the closed ring of a branch, ascending."""
    check_branch(branch)
    check_between(many, 1, MAX_SIZE)
    return count_sums(branch, many)
