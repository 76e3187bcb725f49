"""What matches two curves, and what shows that nothing does."""

from touchtowers.base.numbers import are_whole, is_integer
from touchtowers.curve.curves import check_curve
from touchtowers.number.orders import generators_of


def check_curves(one, other):
    """Refuse all but two curves."""
    check_curve(one)
    check_curve(other)


def generators_along(curve):
    """The generators of each branch of a curve."""
    return [generators_of(branch) for branch in curve.branches]


class Comparison:
    """What the branches of two curves, equally many, have in common. It never changes."""

    def __init__(self, one, other):
        self.many = len(one.branches)
        self.generators = generators_along(one)
        self.other_generators = generators_along(other)
        self.touches = one.touch_table()
        self.other_touches = other.touch_table()

    def is_unlike(self, k, j):
        """Whether the branch k of the first curve and j of the other one have unlike generators."""
        return self.generators[k] != self.other_generators[j]

    def is_apart(self, begun, i, j):
        """Whether the next branch of the first curve and i do not touch as often as j and what i is led to."""
        return self.touches[len(begun)][i] != self.other_touches[j][begun[i]]

    def reasons_against(self, begun, j):
        """What stands against j behind a begun matching, as in the leaves of a bar."""
        unlike = [-1] if self.is_unlike(len(begun), j) else []
        return unlike + [i for i in range(len(begun)) if self.is_apart(begun, i, j)]

    def left(self, begun):
        """The indices of the other curve that a begun matching does not have, ascending."""
        return [j for j in range(self.many) if j not in begun]


def matchings_of(one, other):
    """All matchings of two curves, ascending."""
    if len(one.branches) != len(other.branches):
        return []
    comparison = Comparison(one, other)
    found = [()]
    for _ in range(comparison.many):
        found = [begun + (j,) for begun in found for j in comparison.left(begun)
                 if len(comparison.reasons_against(begun, j)) == 0]
    return found


def matching(one, other):
    """A matching, None if there is none."""
    check_curves(one, other)
    found = matchings_of(one, other)
    return found[0] if len(found) > 0 else None


def is_matching(one, other, value):
    """Whether the value is a matching."""
    check_curves(one, other)
    return are_whole(value) and value in matchings_of(one, other)


def all_matchings(one, other):
    """All matchings, ascending."""
    check_curves(one, other)
    return tuple(matchings_of(one, other))


def node_for(comparison, begun):
    """A node for a begun matching that no matching goes on from."""
    node = {}
    for j in comparison.left(begun):
        reasons = comparison.reasons_against(begun, j)
        node[j] = reasons[0] if len(reasons) > 0 else node_for(comparison, begun + (j,))
    return node


def bar_between(one, other):
    """A bar, None if there is none."""
    if matching(one, other) is not None:
        return None
    if len(one.branches) != len(other.branches):
        return ()
    return node_for(Comparison(one, other), ())


def is_node(comparison, begun, value):
    """Whether the value is a node for a begun matching."""
    if not isinstance(value, dict) or not all([is_integer(j) for j in value]):
        return False
    if sorted(value) != comparison.left(begun):
        return False
    return all([is_entry(comparison, begun, j, entry) for j, entry in value.items()])


def is_entry(comparison, begun, j, value):
    """Whether the value may stand at j in a node for a begun matching."""
    if isinstance(value, dict):
        # A matching that has all branches is not begun, and has no nodes.
        return len(begun) + 1 < comparison.many and is_node(comparison, begun + (j,), value)
    return is_integer(value) and value in comparison.reasons_against(begun, j)


def is_bar(one, other, value):
    """Whether the value is a bar."""
    check_curves(one, other)
    if len(one.branches) != len(other.branches):
        return isinstance(value, tuple) and value == ()
    return is_node(Comparison(one, other), (), value)


def type_name(curve):
    """The least pair of the generators and of the touches with those ahead, over all sequences of the branches."""
    check_curve(curve)
    along = generators_along(curve)
    table = curve.touch_table()
    names = sorted(along)
    # All sequences that begin in the least way; they have the rows so far in common.
    sequences = [()]
    rows = []
    for name in names:
        longer = [(*sequence, k) for sequence in sequences for k in range(len(along))
                  if k not in sequence and along[k] == name]
        row = min([row_behind(table, sequence) for sequence in longer])
        sequences = [sequence for sequence in longer if row_behind(table, sequence) == row]
        rows.append(row)
    return (tuple(names), tuple(rows))


def row_behind(table, sequence):
    """The touches of the last branch of a sequence with those ahead of it."""
    return tuple([table[sequence[-1]][k] for k in sequence[:-1]])
