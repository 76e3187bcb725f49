"""[0.20], [13.1] to [13.3], and touchtowers.tree.trees."""

from fractions import Fraction
from itertools import combinations, product

from touchtowers.curve.curves import Curve
from touchtowers.errors import InvalidCount, InvalidOperation, InvalidPoint, InvalidTree
from touchtowers.tower.points import near_points
from touchtowers.tower.touches import touch
from touchtowers.tree import trees as module
from touchtowers.tree.trees import Tree, crossing_table, determinant, is_negative, tree_of
from touchtowers.weight.weights import single
from touchtowers.word.words import Branch
from tests.helpers import (CUSP, FEW_PRIMES, LINE, NO_INTEGERS, SIXTY, SIXTY_ONE, PlainTest, numbers_made)
from tests.test_points import near_by_definition
from tests.test_words import NO_POINTS

EXAMPLES = """
>>> CUSPS = ((), (0,), (0, -1))
>>> three = tree_of(3, CUSPS)
>>> [str(three), three.table, three.beside(2), determinant(three), is_negative(three), crossing_table(three)]
['-3 -2 -1, 0-2 1-2', ((-3, 0, 1), (0, -2, 1), (1, 1, -1)), (0, 1), -1, True, ((1, 1, 2), (1, 2, 3), (2, 3, 6))]
>>> bare = Tree((-2, -2), ((0, 1),))
>>> [determinant(bare), is_negative(bare)]
[3, True]
>>> Tree((-1, -1, -1), ((0, 1),))
raises InvalidTree
"""
CUSPS = ((), (0,), (0, -1))
TINY = Tree((-2, -2), ((0, 1),))
SIXTY_PATH = tuple((k, k + 1) for k in range(59))
SIXTY_STAR = tuple((0, k) for k in range(1, 60))
# Full tuples of sixty points, and tuples that are not full.
CHAIN = tuple((0,) * height for height in range(60))
SPIRAL = tuple(((0,) + (-1,) * 58)[:height] for height in range(60))
WIDE = tuple(sorted([()] + [(letter,) for letter in range(-1, 31)] + [(0, letter) for letter in range(-1, 26)]))
NOT_FULL = (None, True, 0, "", (), [()], {(): 1}, ((0,),), ((), (0, 1)), ((), ()), ((0,), ()), ((), (1,), (0,)), ((), (0,), (0,)),
            ((), (0,), (0, 1, 1)), ((), (1,), (0, 1)), CHAIN + ((0,) * 60,), tuple((0,) * height for height in range(62)),
            (((),),), ((), [0]), ((), 0), ((), None), ((), (True,)), ((), (False,)), ((), "0"), CUSP, TINY) + tuple(
                (value,) for value in NO_POINTS) + tuple(((), value) for value in NO_POINTS)
# What follows a right tuple of three squares, and is none for pairs.
NO_PAIRS = (None, True, 0, "", (), [], {}, [(0, 1), (1, 2)], ((0, 1),), ((0, 1), (0, 1)), ((0, 1), (0, 2), (1, 2)), ((0, 1), (1, 0)),
            ((1, 2), (0, 1)), ((0, 2), (0, 1)), ((1, 0), (1, 2)), ((0, 0), (1, 2)), ((0, 1), (1, 3)), ((-1, 0), (0, 1)),
            ((0, True), (0, 2)), ((False, 1), (1, 2)), ((0, 1), (True, 2)), ((0, 1, 2), (1, 2)), ((0,), (1, 2)), ((0, 1), ()),
            (0, 1), ((0, 1), [1, 2]), ([0, 1], [1, 2]), ((0, 1), (1, "2")), ((0, 1), (1, None)), ((0, 1), (1, SIXTY_ONE)),
            ("01", "12"), ((0, 1), (1, 2), (1, 2)), ({0: 1}, {1: 2}), ((0, 1), (0, 2), None), TINY)
NO_SQUARES = (None, True, 0, -1, "", (), [-1], {0: -1}, (True,), (False,), (None,), ("-1",), ((-1,),), (-1001,), (1001,), (SIXTY,),
              (-SIXTY_ONE,), (CUSP,), TINY)
NO_TREES = (None, True, 0, "", "-1", (), (-1,), ((-1,), ()), [], [-1], {}, {0: -1}, CUSP, LINE, Curve((LINE,)), InvalidTree("x"))


def full_tuples(prime, many):
    """All full tuples of so many points."""
    found = {((),)}
    for _ in range(many - 1):
        found = {tuple(sorted(points + (point + (letter,),))) for points in found for point in points
                 for letter in range(-1, prime) if point + (letter,) not in points}
    return sorted(found)


def some_full_tuples(prime, many, most=12):
    """Full tuples, the same at each run."""
    made = numbers_made(prime * 5 + many, many * 40, 9973)
    found = []
    for at in range(many):
        points = {()}
        for step in made[40 * at:40 * at + at % most * 3]:
            below = sorted(points)[step % len(points)]
            points.add(below + (step // 61 % (prime + 1) - 1,))
        found.append(tuple(sorted(points)))
    return found


def tuples_to_try():
    found = [points for many in range(1, 6) for points in full_tuples(2, many)[::1 + 6 * (many // 5)]]
    found += full_tuples(3, 3) + full_tuples(3, 4)[::3]
    for prime in FEW_PRIMES:
        found.extend(some_full_tuples(prime, 12))
    return [(3 if max([letter for point in points for letter in point], default=0) < 3 else 31, points) for points in found]


def naive_tree(points):
    """[13.1]: squares and pairs."""
    squares = tuple(-1 - sum(near_by_definition(other, point) for other in points) for point in points)
    pairs = []
    for (i, one), (j, other) in combinations(enumerate(points), 2):
        near = near_by_definition(one, other) or near_by_definition(other, one)
        if near and not any(near_by_definition(point, one) and near_by_definition(point, other) for point in points):
            pairs.append((i, j))
    return squares, tuple(pairs)


def naive_determinant(table):
    """By fractions."""
    lines, found = [[Fraction(entry) for entry in line] for line in table], Fraction(1)
    for column in range(len(lines)):
        place = next((at for at in range(column, len(lines)) if lines[at][column]), None)
        if place is None:
            return 0
        if place != column:
            lines[column], lines[place], found = lines[place], lines[column], -found
        found *= lines[column][column]
        for at in range(column + 1, len(lines)):
            factor = lines[at][column] / lines[column][column]
            lines[at] = [entry - factor * other for entry, other in zip(lines[at], lines[column])]
    return int(found)


def multiplied(one, other):
    columns = list(zip(*other))
    return tuple(tuple(sum(a * b for a, b in zip(line, column)) for column in columns) for line in one)


def small_trees(most, squares):
    """All trees of few nodes with these squares."""
    for many in range(1, most + 1):
        for pairs in combinations(list(combinations(range(many), 2)), many - 1):
            try:
                Tree((0,) * many, pairs)
            except InvalidTree:
                continue
            for entries in product(squares, repeat=many):
                yield Tree(entries, pairs)


def some_trees(many, low, high, most=12):
    """Trees with squares within bounds, the same at each run."""
    made = numbers_made(many + high, many * 30, 99991)
    found = []
    for at in range(many):
        part = made[30 * at:30 * at + 30]
        size = at % most + 1
        squares = tuple(part[k] % (high - low + 1) + low for k in range(size))
        found.append(Tree(squares, tuple(sorted((part[15 + k] % k, k) for k in range(1, size)))))
    return found


class TreeTest(PlainTest):

    def test_examples(self):
        self.examples(EXAMPLES, vars(module))

    def test_constant(self):
        self.same(module.MAX_NODES, 60)

    def test_made(self):
        for tree in some_trees(40, -4, 2) + some_trees(12, -1000, 1000) + list(small_trees(3, (-1, 0))):
            squares, joined = tree.squares, tree.joined
            self.same(Tree(squares, joined) == tree, True)
            nodes = range(len(squares))
            wanted = tuple(tuple(squares[i] if i == j else int((i, j) in joined or (j, i) in joined) for j in nodes) for i in nodes)
            self.same(tree.table, wanted)
            self.same(len(tree), len(squares))
            for node in nodes:
                self.same(tree.beside(node), tuple(other for other in nodes if other != node and wanted[node][other]))

    def test_texts(self):
        self.same([str(Tree((-1,), ())), str(TINY), str(Tree((1000, 0, -1000), ((0, 2), (1, 2))))],
                  ["-1", "-2 -2, 0-1", "1000 0 -1000, 0-2 1-2"])
        self.same(str(Tree((0,) * 12, tuple((k, k + 1) for k in range(11))))[-15:], " 8-9 9-10 10-11")

    def test_one_node_and_sixty(self):
        one = Tree((7,), ())
        self.same([one.squares, one.joined, one.table, one.beside(0), len(one), determinant(one), is_negative(one)],
                  [(7,), (), ((7,),), (), 1, 7, False])
        path, star = Tree((-2,) * 60, SIXTY_PATH), Tree((-1000,) * 60, SIXTY_STAR)
        self.same([len(path), path.beside(0), path.beside(59), path.beside(30)], [60, (1,), (58,), (29, 31)])
        self.same([star.beside(0), star.beside(59)], [tuple(range(1, 60)), (0,)])
        self.same([determinant(path), is_negative(path)], [61, True])
        self.same([determinant(star), is_negative(star)], [1000 ** 60 - 59 * 1000 ** 58, True])
        self.raised(InvalidTree, Tree, (-2,) * 61, tuple((k, k + 1) for k in range(60)))
        self.raised(InvalidTree, Tree, (-2,) * 62, tuple((0, k) for k in range(1, 62)))
        self.raised(InvalidTree, Tree, (-2,) * 60, SIXTY_PATH[:-1])
        self.raised(InvalidTree, Tree, (-2,) * 59, SIXTY_PATH)

    def test_refuses(self):
        self.refused(InvalidTree, Tree, ((-1,), ()), 0, NO_SQUARES)
        for value in NO_SQUARES:
            if isinstance(value, tuple) and len(value) == 1:
                self.raised(InvalidTree, Tree, (-1,) + value, ((0, 1),))
        self.refused(InvalidTree, Tree, ((-1, -2, -3), ((0, 1), (1, 2))), 1, NO_PAIRS)
        self.raised(InvalidTree, Tree, (-1, -2), ())
        self.raised(InvalidTree, Tree, (-1,), ((0, 0),))
        # A circle beside a node, with as many pairs as a tree.
        self.raised(InvalidTree, Tree, (-1,) * 4, ((0, 1), (0, 2), (1, 2)))
        self.raised(InvalidTree, Tree, (-1,) * 5, ((0, 1), (0, 2), (1, 2), (3, 4)))

    def test_nodes(self):
        for tree in (Tree((-1,), ()), TINY, Tree((-2,) * 60, SIXTY_PATH)):
            self.refused(InvalidCount, tree.beside, (0,), 0, NO_INTEGERS + (-1, len(tree), SIXTY, -SIXTY))

    def test_never_changes(self):
        for name in ("squares", "joined", "table"):
            with self.assertRaises(AttributeError):
                setattr(TINY, name, ())
        self.raised(TypeError, iter, TINY)

    def test_equality(self):
        found = [Tree((-1,), ()), Tree((-2,), ()), TINY, Tree((-2, -1), ((0, 1),)), Tree((-1, -2), ((0, 1),)),
                 Tree((-1, -1, -1), ((0, 1), (1, 2))), Tree((-1, -1, -1), ((0, 1), (0, 2))), tree_of(3, CUSPS)]
        for at, one in enumerate(found):
            for other_at, other in enumerate(found):
                self.assertIs(one == other, at == other_at)
                self.assertIs(one != other, at != other_at)
            for value in NO_TREES:
                self.assertIs(one == value, False)
                self.assertIs(one != value, True)
        self.assertIs(tree_of(3, CUSPS) == Tree((-3, -2, -1), ((0, 2), (1, 2))), True)


class ExceptionalTest(PlainTest):

    def test_trees_of_points(self):
        for prime, points in tuples_to_try():
            tree = tree_of(prime, points)
            self.same((tree.squares, tree.joined), naive_tree(points))
            self.same(Tree(tree.squares, tree.joined) == tree, True)
            # [13.2]
            self.same([determinant(tree), is_negative(tree)], [(-1) ** len(points), True])
            table = tuple(tuple(1 if one == other else -int(other in near_points(one)) for other in points) for one in points)
            self.same(tree.table, tuple(tuple(-entry for entry in line) for line in multiplied(tuple(zip(*table)), table)))

    def test_sixty_points(self):
        for prime, points in ((2, CHAIN), (2, SPIRAL), (31, WIDE)):
            tree = tree_of(prime, points)
            self.same((tree.squares, tree.joined), naive_tree(points))
            self.same([len(tree), determinant(tree), is_negative(tree)], [60, 1, True])
            table = multiplied(crossing_table(tree), tree.table)
            self.same(table, tuple(tuple(-int(i == j) for j in range(60)) for i in range(60)))
        self.same([tree_of(31, WIDE).squares[0], tree_of(2, CHAIN).squares[58:]], [-34, (-2, -1)])

    def test_points_refuse(self):
        self.refuses_primes(tree_of, ((),))
        self.refuses_primes(tree_of, None)
        self.refused(InvalidPoint, tree_of, (3, CUSPS), 1, NOT_FULL)
        self.raised(InvalidPoint, tree_of, 2, ((), (2,)))
        self.same(str(tree_of(2, ((),))), "-1")


class TableTest(PlainTest):

    def test_determinants(self):
        for tree in some_trees(60, -4, 1) + some_trees(24, -1000, 1000) + list(small_trees(3, (-2, -1, 0, 1))):
            self.same(determinant(tree), naive_determinant(tree.table))

    def test_negative(self):
        for tree in some_trees(60, -4, -1) + some_trees(24, -5, -2) + list(small_trees(4, (-2, -1, 0))):
            # By the signs of the determinants of the first lines and columns.
            corners = [naive_determinant([line[:size] for line in tree.table[:size]]) for size in range(1, len(tree) + 1)]
            self.assertIs(is_negative(tree), all((corner < 0) == (size % 2 == 0) and corner != 0
                                                 for size, corner in enumerate(corners)))

    def test_negative_by_tuples(self):
        for tree in small_trees(3, (-3, -2, -1, 0)):
            values = [sum(tree.table[i][j] * one * other for i, one in enumerate(entries) for j, other in enumerate(entries))
                      for entries in product(range(-3, 4), repeat=len(tree)) if any(entries)]
            self.assertIs(is_negative(tree), max(values) < 0)

    def test_crossing_tables(self):
        kinds = {True: 0, False: 0}
        for tree in some_trees(200, -3, 1, 8) + list(small_trees(4, (-2, -1, 0))) + [tree_of(*pair) for pair in tuples_to_try()]:
            if abs(determinant(tree)) != 1:
                self.raised(InvalidOperation, crossing_table, tree)
                continue
            found = crossing_table(tree)
            kinds[is_negative(tree)] += 1
            size = len(tree)
            self.same(multiplied(found, tree.table), tuple(tuple(-int(i == j) for j in range(size)) for i in range(size)))
        self.assertGreater(min(kinds.values()), 50)
        self.raised(InvalidOperation, crossing_table, TINY)
        self.raised(InvalidOperation, crossing_table, Tree((0,), ()))
        self.same([crossing_table(Tree((1,), ())), crossing_table(Tree((-1,), ())), crossing_table(Tree((0, 1000), ((0, 1),)))],
                  [((-1,),), ((1,),), ((1000, -1), (-1, 0))])

    def test_values_of_single_weights(self):
        # [13.3]
        for prime, points in tuples_to_try():
            found = crossing_table(tree_of(prime, points))
            for i, one in enumerate(points):
                for j, other in enumerate(points):
                    self.same(found[i][j], single(prime, one).touch_with(single(prime, other)))
                    self.assertGreaterEqual(found[i][j], 1)

    def test_touches_of_branches(self):
        # [13.3], [0.16]: two branches that leave the tree at unlike free points.
        for prime, points in tuples_to_try():
            found = crossing_table(tree_of(prime, points))
            for i, one in enumerate(points):
                for j, other in enumerate(points):
                    first, second = leaving(prime, points, one, False), leaving(prime, points, other, True)
                    if first is not None and second is not None and first != second:
                        self.same(found[i][j], touch(first, second))

    def test_refuse(self):
        for call in (determinant, is_negative, crossing_table):
            self.refused(InvalidTree, call, (TINY,), 0, NO_TREES)


def leaving(prime, points, point, last):
    """A branch that crosses the exceptional curve of a point of a full tuple at no other one, None if there is none."""
    least = -1 if len(point) == 0 else len(near_points(point)) - 1
    letters = [letter for letter in range(least, prime) if point + (letter,) not in points]
    if len(letters) < 2:
        return None
    word = point + (letters[-1 if last else 0],)
    while word and word[-1] == 0:
        word = word[:-1]
    return Branch(prime, word) if word in ((), (-1,)) or word[-1] > 0 else None
