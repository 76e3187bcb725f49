"""Which pledges hold."""

from touchtowers.curve.matchings import matching
from touchtowers.tower.touches import touch


def touch_together(one, other):
    """The sum of the touches of two curves, None if they have a branch in common."""
    if any([branch in other for branch in one.branches]):
        return None
    return sum([touch(branch, second) for branch in one.branches for second in other.branches])


def told_of_curves(state, pledge):
    """What a pledge that names curves is about, and what it has to be; the state has these curves."""
    kind, curve = pledge[0], state.curves[pledge[1]]
    if kind == "branches":
        return (len(curve), pledge[2])
    if kind == "lacked":
        return (curve.lacked, pledge[2])
    other = state.curves[pledge[2]]
    if kind == "touch":
        return (touch_together(curve, other), pledge[3])
    return (matching(curve, other) is not None, True)


def told_of_weights(state, pledge):
    """What a pledge that names weights is about, and what it has to be; the state has these weights."""
    weights = state.weights[pledge[1]]
    return (weights.is_let, True) if pledge[0] == "let" else (weights.conditions, pledge[2])


def holds(state, pledge):
    """Whether a pledge holds."""
    if pledge[0] in ("let", "conditions"):
        found, wanted = told_of_weights(state, pledge) if pledge[1] in state.weights else (None, 0)
        return found == wanted
    names = pledge[1:3] if pledge[0] in ("touch", "alike") else pledge[1:2]
    if not all([name in state.curves for name in names]):
        return False
    found, wanted = told_of_curves(state, pledge)
    return found == wanted
