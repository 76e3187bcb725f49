"""The class Tree, the trees of exceptional curves, and their tables."""

from touchtowers.base.numbers import check_between, check_prime, is_between
from touchtowers.errors import InvalidOperation, InvalidPoint, InvalidTree
from touchtowers.tower.points import near_points
from touchtowers.word.words import is_point

MAX_NODES = 60

MAX_SQUARE = 1000


def are_squares(value):
    """Whether the value is a tuple of the squares of a tree."""
    if not isinstance(value, tuple) or not 1 <= len(value) <= MAX_NODES:
        return False
    return all([is_between(square, -MAX_SQUARE, MAX_SQUARE) for square in value])


def is_pair_of_nodes(many, value):
    """Whether the value is an ascending pair of nodes, of so many."""
    if not isinstance(value, tuple) or len(value) != 2:
        return False
    return all([is_between(node, 0, many - 1) for node in value]) and value[0] < value[1]


def are_pairs_of_nodes(many, value):
    """Whether the value is an ascending tuple of pairs of nodes, of so many."""
    if not isinstance(value, tuple) or not all([is_pair_of_nodes(many, pair) for pair in value]):
        return False
    return all([low < high for low, high in zip(value, value[1:])])


def is_tree(many, joined):
    """Whether there is just one way between each two of so many nodes."""
    groups = list(range(many))
    for i, j in joined:
        first, second = groups[i], groups[j]
        if first == second:
            return False
        groups = [first if group == second else group for group in groups]
    return len(joined) == many - 1


def tree_text(squares, joined):
    """The text of a tree."""
    nodes = " ".join([str(square) for square in squares])
    pairs = " ".join([f"{i}-{j}" for i, j in joined])
    return f"{nodes}, {pairs}" if len(joined) > 0 else nodes


class Tree:
    """A tree of numbered nodes with integers. It never changes."""

    def __init__(self, squares, joined):
        if not are_squares(squares):
            raise InvalidTree("not one to sixty integers from -1000 to 1000")
        if not are_pairs_of_nodes(len(squares), joined) or not is_tree(len(squares), joined):
            raise InvalidTree("not ascending pairs of nodes that make a tree")
        self._squares = squares
        self._joined = joined

    @property
    def squares(self):
        """The integers of the nodes."""
        return self._squares

    @property
    def joined(self):
        """The ascending pairs of joined nodes."""
        return self._joined

    @property
    def table(self):
        """The table: the squares on its diagonal, 1 for each two nodes that are joined, 0 elsewhere."""
        nodes = range(len(self._squares))
        # A node is not joined to itself.
        return tuple([tuple([self._squares[i] if i == j else int((min(i, j), max(i, j)) in self._joined)
                             for j in nodes]) for i in nodes])

    def beside(self, node):
        """The nodes that are joined to a node, ascending."""
        check_between(node, 0, len(self._squares) - 1)
        return tuple([i + j - node for i, j in self._joined if node in (i, j)])

    def __len__(self):
        return len(self._squares)

    def __eq__(self, other):
        return isinstance(other, Tree) and self._squares == other._squares and self._joined == other._joined

    def __str__(self):
        return str(tree_text(self._squares, self._joined))


def made_tree(squares, joined):
    """The tree with integers of any length, and with pairs that make a tree, in any sequence."""
    made = Tree((0,) * len(squares), tuple(sorted(joined)))
    # Results may be greater than what can be passed.
    made._squares = tuple(squares)
    return made


def check_tree(tree):
    """Refuse all but trees."""
    if not isinstance(tree, Tree):
        raise InvalidTree("not a tree")


def is_full(prime, value):
    """Whether the value is a full tuple of points over the prime."""
    if not isinstance(value, tuple) or not 1 <= len(value) <= MAX_NODES:
        return False
    if not all([is_point(prime, point) for point in value]):
        return False
    if not all([low < high for low, high in zip(value, value[1:])]):
        return False
    return all([point[:-1] in value for point in value])


def check_full(prime, points):
    """Refuse all but primes with their full tuples."""
    check_prime(prime)
    if not is_full(prime, points):
        raise InvalidPoint("not an ascending tuple of points with all points below them")


def squares_of(points):
    """The squares of the exceptional curves of a full tuple."""
    return [-1 - len([other for other in points if point in near_points(other)]) for point in points]


def crossed_pairs(points):
    """The pairs of indices of those points of a full tuple whose exceptional curves are joined."""
    indices = {point: index for index, point in enumerate(points)}
    # A point that is near two others stands between them.
    parted = {near_points(point): True for point in points if len(near_points(point)) == 2}
    return [(indices[lower], indices[point]) for point in points for lower in near_points(point)
            if (point, lower) not in parted]


def tree_of(prime, points):
    """The tree of the exceptional curves of a full tuple."""
    check_full(prime, points)
    return made_tree(squares_of(points), crossed_pairs(points))


def steps_from(tree, root):
    """The pairs of a node and of the next one on its way to the root, those nearer to the root first."""
    steps = []
    waiting = [(root, None)]
    while len(waiting) > 0:
        node, before = waiting.pop()
        if before is not None:
            steps.append((node, before))
        waiting.extend([(other, node) for other in tree.beside(node) if other != before])
    return steps


def determinants_along(tree, steps):
    """For each node the determinant of what hangs from it, and that of the same without the node itself."""
    whole = list(tree.squares)
    beneath = [1] * len(tree)
    for node, before in reversed(steps):
        whole[before] = whole[before] * whole[node] - beneath[before] * beneath[node]
        beneath[before] = beneath[before] * whole[node]
    return whole, beneath


def determinant(tree):
    """The determinant of the table."""
    check_tree(tree)
    return determinants_along(tree, steps_from(tree, 0))[0][0]


def is_negative(tree):
    """Whether the table makes integers below 0 of all tuples but that of zeros."""
    check_tree(tree)
    whole, beneath = determinants_along(tree, steps_from(tree, 0))
    # What is left of each square, if the nodes are cleared one behind the other, those far from the root first.
    return all([first * second < 0 for first, second in zip(whole, beneath)])


def minors_from(tree, root):
    """The determinants of the table without the line of the root and the column of each node, with their signs."""
    steps = steps_from(tree, root)
    whole, beneath = determinants_along(tree, steps)
    # What hangs from the way between the root and a node, but for what hangs from the node itself.
    aside = {root: 1}
    for node, before in steps:
        factor = -aside[before]
        for other, place in steps:
            if place == before and other != node:
                factor = factor * whole[other]
        aside[node] = factor
    return [aside[node] * beneath[node] for node in range(len(tree))]


def crossing_table(tree):
    """The table whose product with that of the tree has -1 on its diagonal and 0 elsewhere."""
    whole = determinant(tree)
    if abs(whole) != 1:
        raise InvalidOperation("the determinant is neither 1 nor -1")
    return tuple([tuple([-whole * minor for minor in minors_from(tree, node)]) for node in range(len(tree))])
