"""Curves: some branches through one point, taken together."""

from touchtowers.base.numbers import check_between, check_equal_primes
from touchtowers.errors import InvalidCurve, InvalidOperation, TooMany
from touchtowers.tower.points import count_at_point
from touchtowers.tower.touches import are_unlike_branches, lacked_together, touch_rows
from touchtowers.word.words import MAX_LETTERS, check_branch, check_point, shared_height

MAX_BRANCHES = 6


class Curve:
    """One to six unlike branches over one prime. It never changes."""

    def __init__(self, branches):
        if not are_unlike_branches(branches):
            raise InvalidCurve("not a tuple of one to six different branches over one prime")
        self._branches = tuple(sorted(branches, key=lambda branch: branch.word))
        self._prime = self._branches[0].prime
        self._lacked = lacked_together(self._branches)

    @property
    def prime(self):
        """The prime of the curve."""
        return self._prime

    @property
    def branches(self):
        """The tuple of its branches, by ascending words."""
        return self._branches

    @property
    def lacked(self):
        """What the curve lacks."""
        return self._lacked

    @property
    def milnor(self):
        """The Milnor number."""
        return 2 * self._lacked - len(self._branches) + 1

    def count_on(self, point):
        """The count at a point."""
        check_point(self._prime, point)
        return sum([count_at_point(branch, point) for branch in self._branches])

    def points_to(self, height):
        """The points of heights up to this one through which some branch goes, ascending."""
        check_between(height, 0, MAX_LETTERS)
        tops = [branch.point_at(height) for branch in self._branches]
        return tuple(sorted({top[:below] for top in tops for below in range(height + 1)}))

    def touch_table(self):
        """For each branch its touches with all branches, None for itself."""
        return touch_rows(self._branches)

    def parting_height(self):
        """The least height at which all branches go through different points."""
        pairs = [(one, other) for at, one in enumerate(self._branches) for other in self._branches[:at]]
        return max([shared_height(one, other) for one, other in pairs], default=0)

    def with_branch(self, branch):
        """The curve with a branch more."""
        check_branch(branch)
        check_equal_primes(self, branch)
        if branch in self._branches:
            raise InvalidOperation("the branch is one of the curve")
        if len(self._branches) == MAX_BRANCHES:
            raise TooMany(MAX_BRANCHES)
        return Curve(self._branches + (branch,))

    def without_branch(self, branch):
        """The curve without one of its branches."""
        check_branch(branch)
        left = tuple([kept for kept in self._branches if kept != branch])
        if len(left) == len(self._branches) or len(left) == 0:
            raise InvalidOperation("the branch is not one of the curve, or the only one")
        return Curve(left)

    def __len__(self):
        return len(self._branches)

    def __contains__(self, x):
        return any([branch == x for branch in self._branches])

    def __iter__(self):
        return iter(self._branches)

    def __eq__(self, other):
        return isinstance(other, Curve) and self._branches == other._branches

    def __str__(self):
        return f"curve of {len(self._branches)} branches over {self._prime}"


def check_curve(curve):
    """Refuse all but curves."""
    if not isinstance(curve, Curve):
        raise InvalidCurve("not a curve")
