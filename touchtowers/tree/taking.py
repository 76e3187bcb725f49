"""Taking down trees, and the points that they tell."""

from touchtowers.base.numbers import check_prime, is_integer
from touchtowers.errors import InvalidPaper
from touchtowers.tree.trees import check_tree, crossed_pairs, is_full, made_tree, squares_of
from touchtowers.word.words import TURN, is_point


class Remains:
    """What is left of a tree while its nodes are taken."""

    def __init__(self, tree):
        self.integers = {node: square for node, square in enumerate(tree.squares)}
        self._beside = {node: tree.beside(node) for node in self.integers}

    def can_take(self, node):
        """Whether a node that is left can be taken."""
        return self.integers[node] == -1 and len(self._beside[node]) <= 2

    def ready_nodes(self):
        """The nodes that can be taken, ascending."""
        return [node for node in sorted(self.integers) if self.can_take(node)]

    def take(self, node):
        """Take a node; those that were joined to it."""
        others = list(self._beside[node])
        for other in others:
            # Of at most two nodes beside this one, the other one comes in its place.
            rest = [place for place in self._beside[other] if place != node]
            self._beside[other] = tuple(rest + [place for place in others if place != other])
            self.integers[other] = self.integers[other] + 1
        del self.integers[node]
        return others

    def pairs(self):
        """The pairs of nodes that are joined, ascending."""
        return [(node, other) for node in sorted(self.integers) for other in sorted(self._beside[node]) if node < other]


def takable(tree):
    """The nodes that can be taken, ascending."""
    check_tree(tree)
    return tuple(Remains(tree).ready_nodes())


def nodes_taken(tree):
    """The dict from nodes, in a sequence in which they can be taken, to those then joined to them.

    It has all nodes exactly if the tree can be taken down.
    """
    remains = Remains(tree)
    taken = {}
    ready = remains.ready_nodes()
    while len(ready) > 0:
        taken[ready[0]] = remains.take(ready[0])
        ready = remains.ready_nodes()
    return taken


def take_down(tree):
    """A sequence of all nodes in which the tree is taken down, None if there is none."""
    check_tree(tree)
    taken = nodes_taken(tree)
    return tuple(taken) if len(taken) == len(tree) else None


def remains_behind(tree, value):
    """What is left behind the takings that a value tells, None if it tells none."""
    if not isinstance(value, tuple):
        return None
    remains = Remains(tree)
    for node in value:
        if not is_integer(node) or node not in remains.integers or not remains.can_take(node):
            return None
        remains.take(node)
    return remains


def is_taking_down(tree, value):
    """Whether the value is a sequence of all nodes in which the tree is taken down."""
    check_tree(tree)
    remains = remains_behind(tree, value)
    return remains is not None and len(remains.integers) == 0


def left_by(tree, nodes):
    """The nodes that are left if some are taken, and their tree, None if none is left."""
    check_tree(tree)
    remains = remains_behind(tree, nodes)
    if remains is None:
        raise InvalidPaper("not nodes that can be taken in this sequence")
    left = sorted(remains.integers)
    if len(left) == 0:
        return ((), None)
    places = {node: place for place, node in enumerate(left)}
    joined = [(places[node], places[other]) for node, other in remains.pairs()]
    return (tuple(left), made_tree([remains.integers[node] for node in left], joined))


def ordered(near, nodes):
    """The nodes, of which one is near the other one if there are two, with this one first."""
    if len(nodes) == 2 and nodes[0] in near[nodes[1]]:
        return (nodes[1], nodes[0])
    return tuple(nodes)


def free_letters(prime, many):
    """The letters that lead to no corner from a point that is near so many others."""
    # At a point that is near one other, the turn leads to a corner, and at a corner the letter 0 does, too.
    return list(range(TURN + many, prime))


def letter_to(near, free, nodes):
    """The letter from the first one of the nodes that a point is near to this point, None if none is left."""
    if len(nodes) == 2:
        return TURN if near[nodes[0]][0] == nodes[1] else 0
    return free[nodes[0]].pop() if len(free[nodes[0]]) > 0 else None


def points_by_takings(prime, taken):
    """The points of the nodes of a tree, by the nodes that were joined to each one when it was taken.

    None if a point has too few letters over the prime.
    """
    near, free, points = {}, {}, {}
    # The node that was taken last is that of the origin, and each node is near those that were joined to it.
    for node in list(taken)[::-1]:
        nodes = ordered(near, taken[node])
        near[node] = nodes
        free[node] = free_letters(prime, len(nodes))
        if len(nodes) == 0:
            points[node] = ()
            continue
        letter = letter_to(near, free, nodes)
        if letter is None:
            return None
        points[node] = points[nodes[0]] + (letter,)
    return points


def points_with(prime, tree):
    """A tuple of points, one for each node, of which the tree comes, None if there is none over the prime."""
    check_prime(prime)
    check_tree(tree)
    taken = nodes_taken(tree)
    points = points_by_takings(prime, taken) if len(taken) == len(tree) else None
    return None if points is None else tuple([points[node] for node in range(len(tree))])


def are_points_with(prime, tree, value):
    """Whether the value is a tuple of points, one for each node, of which the tree comes."""
    check_prime(prime)
    check_tree(tree)
    if not isinstance(value, tuple) or not all([is_point(prime, point) for point in value]):
        return False
    points = tuple(sorted(value))
    if len(points) != len(tree) or not is_full(prime, points):
        return False
    nodes = {point: node for node, point in enumerate(value)}
    pairs = [sorted([nodes[points[i]], nodes[points[j]]]) for i, j in crossed_pairs(points)]
    if sorted(pairs) != [list(pair) for pair in tree.joined]:
        return False
    return all([tree.squares[nodes[point]] == square for point, square in zip(points, squares_of(points))])
