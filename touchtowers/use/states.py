"""What a bench keeps at one time, and its texts."""

from touchtowers.word.words import text_of_letters


def curve_line(name, curve):
    """The line of a curve."""
    words = ", ".join([text_of_letters(branch.word) for branch in curve.branches])
    return f"curve {name}: {words}"


def weights_line(name, weights):
    """The line of weights."""
    points = ", ".join([f"{text_of_letters(point)} {weight}" for point, weight in weights.table.items()])
    return f"weights {name}: {points}"


class State:
    """Curves, weights and pledges over one prime, and their lines. It never changes."""

    def __init__(self, prime, curves, weights, promises):
        self.curves = curves
        self.weights = weights
        self.promises = promises
        self.texts = ([f"prime {prime}"] + [curve_line(name, curves[name]) for name in sorted(curves)]
                      + [weights_line(name, weights[name]) for name in sorted(weights)])


def news_between(before, after):
    """The lines of one state that another one does not have, and those that this one has more, both ascending."""
    gone = [text for text in before.texts if text not in after.texts]
    come = [text for text in after.texts if text not in before.texts]
    return (tuple(sorted(gone)), tuple(sorted(come)))


def bench_text(prime, state):
    """The text of a bench."""
    told = f"{len(state.curves)} curves, {len(state.weights)} weights, {len(state.promises)} pledges"
    return f"bench over {prime} of {told}"
