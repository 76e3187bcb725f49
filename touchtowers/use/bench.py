"""A bench: curves and weights under names, with pledges, and with changes that can be taken back."""

from touchtowers.base.numbers import check_equal_primes, check_prime, is_integer, is_name
from touchtowers.curve.curves import check_curve
from touchtowers.errors import InvalidCount, InvalidOperation, NothingToUndo, Refused, TooMany, UnknownName
from touchtowers.use.pledges import holds
from touchtowers.use.states import State, bench_text, news_between
from touchtowers.weight.unloading import unloaded
from touchtowers.weight.weights import check_weights

MAX_CURVES = 6
MAX_WEIGHTS = 6
MAX_PLEDGES = 10

# How many names stand behind the first word of a pledge, and how many integers behind these.
FORMS = {"branches": (1, 1), "lacked": (1, 1), "touch": (2, 1), "alike": (2, 0), "let": (1, 0), "conditions": (1, 1)}


def is_pledge(value):
    """Whether the value is a pledge."""
    if not isinstance(value, tuple) or len(value) == 0 or not isinstance(value[0], str) or value[0] not in FORMS:
        return False
    names, numbers = FORMS[value[0]]
    if len(value) != 1 + names + numbers or not all([is_name(name) for name in value[1:1 + names]]):
        return False
    return all([is_integer(number) for number in value[1 + names:]])


def check_room(table, most):
    """Refuse one more if there are so many already."""
    if len(table) == most:
        raise TooMany(most)


def without(table, name):
    """The dict without one key."""
    return {key: table[key] for key in table if key != name}


def renamed(table, names):
    """The dict with other keys."""
    return {names[name]: table[name] for name in table}


class Trial:
    """A block behind which a bench is as it was when the block was entered."""

    def __init__(self, bench):
        self.bench = bench
        self.state = None
        self.done = None
        self.undone = None

    def __enter__(self):
        bench = self.bench
        self.state = bench._state
        self.done = list(bench._done)
        self.undone = list(bench._undone)
        return bench

    def __exit__(self, kind, value, trace):
        bench = self.bench
        bench._state = self.state
        bench._done = self.done
        bench._undone = self.undone


class Bench:
    """Up to six curves and six weights under names, with up to ten pledges."""

    def __init__(self, prime):
        check_prime(prime)
        self._prime = prime
        self._state = State(prime, {}, {}, ())
        # The states to go back to, and those to go to again, the nearest ones last.
        self._done = []
        self._undone = []

    @property
    def prime(self):
        """The prime of the bench."""
        return self._prime

    @property
    def names(self):
        """All names, ascending."""
        return tuple(sorted([*self._state.curves, *self._state.weights]))

    @property
    def lines(self):
        """The lines that tell the prime, the curves and the weights."""
        return tuple(self._state.texts)

    @property
    def pledges(self):
        """The pledges in the order of demands."""
        return self._state.promises

    @property
    def changes(self):
        """How many changes can be taken back."""
        return len(self._done)

    def _changed(self, curves, weights, promises):
        """Change to these curves, weights and pledges; the news."""
        state = State(self._prime, curves, weights, promises)
        for pledge in promises:
            if not holds(state, pledge):
                raise Refused(pledge)
        before = self._state
        self._done.append(before)
        self._undone = []
        self._state = state
        return news_between(before, state)

    def _with_curves(self, curves):
        """Change the curves alone; the news."""
        return self._changed(curves, self._state.weights, self._state.promises)

    def _with_weights(self, weights):
        """Change the weights alone; the news."""
        return self._changed(self._state.curves, weights, self._state.promises)

    def _check_new(self, name):
        """Refuse all but names that nothing has."""
        if not is_name(name) or name in self._state.curves or name in self._state.weights:
            raise InvalidOperation("not a name that nothing has")

    def curve_named(self, name):
        """The curve with a name."""
        if not is_name(name) or name not in self._state.curves:
            raise UnknownName(name)
        return self._state.curves[name]

    def weights_named(self, name):
        """The weights with a name."""
        if not is_name(name) or name not in self._state.weights:
            raise UnknownName(name)
        return self._state.weights[name]

    def put(self, name, curve):
        """Put a further curve on the bench."""
        self._check_new(name)
        check_curve(curve)
        check_equal_primes(self, curve)
        check_room(self._state.curves, MAX_CURVES)
        return self._with_curves({**self._state.curves, name: curve})

    def load(self, name, weights):
        """Put further weights on the bench."""
        self._check_new(name)
        check_weights(weights)
        check_equal_primes(self, weights)
        check_room(self._state.weights, MAX_WEIGHTS)
        return self._with_weights({**self._state.weights, name: weights})

    def grow(self, name, branch):
        """Add a branch to a curve."""
        curve = self.curve_named(name).with_branch(branch)
        return self._with_curves({**self._state.curves, name: curve})

    def prune(self, name, branch):
        """Take a branch away from a curve."""
        curve = self.curve_named(name).without_branch(branch)
        return self._with_curves({**self._state.curves, name: curve})

    def blend(self, name, one, other):
        """Put the sum of two weights on the bench."""
        self._check_new(name)
        first, second = self.weights_named(one), self.weights_named(other)
        check_room(self._state.weights, MAX_WEIGHTS)
        return self._with_weights({**self._state.weights, name: first.plus(second)})

    def unload(self, name):
        """Put the unloaded weights in the place of weights."""
        weights = unloaded(self.weights_named(name))
        return self._with_weights({**self._state.weights, name: weights})

    def drop(self, name):
        """Take a curve or weights from the bench."""
        if not is_name(name) or name not in self.names:
            raise UnknownName(name)
        state = self._state
        return self._changed(without(state.curves, name), without(state.weights, name), state.promises)

    def rename(self, names):
        """Give other names to everything."""
        known = self.names
        if not isinstance(names, dict) or not all([is_name(name) and is_name(names[name]) for name in names]):
            raise InvalidOperation("not a dict from names to names")
        if tuple(sorted(names)) != known or len(set(list(names.values()))) < len(names):
            raise InvalidOperation("not a dict from just the names on the bench to different names")
        state = self._state
        return self._changed(renamed(state.curves, names), renamed(state.weights, names), state.promises)

    def demand(self, pledge):
        """Add a pledge."""
        state = self._state
        if not is_pledge(pledge) or pledge in state.promises:
            raise InvalidOperation("no pledge, or one that is there already")
        check_room(state.promises, MAX_PLEDGES)
        return self._changed(state.curves, state.weights, state.promises + (pledge,))

    def waive(self, pledge):
        """Take a pledge away."""
        state = self._state
        if not is_pledge(pledge) or pledge not in state.promises:
            raise InvalidOperation("not a pledge of the bench")
        return self._changed(state.curves, state.weights, tuple([kept for kept in state.promises if kept != pledge]))

    def undo(self, *, many=1):
        """Take back so many changes."""
        return self._moved(self._done, self._undone, many)

    def redo(self, *, many=1):
        """Do so many changes again."""
        return self._moved(self._undone, self._done, many)

    def _moved(self, ahead, behind, many):
        """Go to a state ahead, so many changes away, and keep those passed behind; the news."""
        if not is_integer(many) or many < 0:
            raise InvalidCount(many)
        if many > len(ahead):
            raise NothingToUndo(many)
        before = self._state
        for _ in range(many):
            behind.append(self._state)
            self._state = ahead.pop()
        return news_between(before, self._state)

    def trial(self):
        """A block behind which the bench is as it was."""
        return Trial(self)

    def during(self, call):
        """What a call returns in a block behind which the bench is as it was."""
        with self.trial() as same:
            return call(same)

    def twin(self):
        """An independent copy."""
        made = Bench(self._prime)
        made._state = self._state
        made._done = list(self._done)
        made._undone = list(self._undone)
        return made

    def __len__(self):
        return len(self._state.promises)

    def __contains__(self, x):
        return (isinstance(x, str) and x in self._state.texts) or (is_pledge(x) and x in self._state.promises)

    def __iter__(self):
        return iter(self._state.texts)

    def __eq__(self, other):
        return (isinstance(other, Bench) and self._prime == other._prime and self._state.curves == other._state.curves
                and self._state.weights == other._state.weights and self._state.promises == other._state.promises)

    def __str__(self):
        return str(bench_text(self._prime, self._state))
