"""[0.6], [0.20], [13.4] to [13.6], and touchtowers.tree.taking."""

from itertools import permutations, product

from touchtowers.errors import InvalidPaper, InvalidPrime, InvalidTree
from touchtowers.tower.points import near_points
from touchtowers.tree import taking, trees
from touchtowers.tree.taking import are_points_with, is_taking_down, left_by, points_with, takable, take_down
from touchtowers.tree.trees import Tree, determinant, is_negative, tree_of
from tests.helpers import CUSP, FEW_PRIMES, NO_PRIMES, SIXTY, SIXTY_ONE, PlainTest
from tests.test_trees import (CHAIN, CUSPS, NO_TREES, SIXTY_PATH, SIXTY_STAR, SPIRAL, TINY, WIDE, full_tuples, small_trees,
                              some_full_tuples, some_trees, tuples_to_try)
from tests.test_words import NO_POINTS

EXAMPLES = """
>>> three = tree_of(3, ((), (0,), (0, -1)))
>>> [takable(three), take_down(three), is_taking_down(three, (2, 0, 1)), left_by(three, (2,))[0], str(left_by(three, (2,))[1]), left_by(three, (2, 1, 0))]
[(2,), (2, 1, 0), False, (0, 1), '-2 -1, 0-1', ((), None)]
>>> bare = Tree((-2, -2), ((0, 1),))
>>> [take_down(bare), points_with(3, bare), are_points_with(3, three, ((), (1,), (1, -1))), are_points_with(3, three, ((), (0,), (0, 0)))]
[None, None, True, False]
>>> wide = Tree((-5, -1, -1, -1, -1), ((0, 1), (0, 2), (0, 3), (0, 4)))
>>> [points_with(2, wide), sorted(points_with(3, wide))]
[None, [(), (-1,), (0,), (1,), (2,)]]
"""
THREE = tree_of(3, CUSPS)
# A node with the square -1 and three others, and squares that grow beyond -1.
FORK, PAIR, STAY = Tree((-1, -2, -3, -7), ((0, 1), (0, 2), (0, 3))), Tree((-1, -1), ((0, 1),)), Tree((-2, -3, -2), ((0, 1), (1, 2)))


def naive_takable(squares, pairs):
    return [node for node in sorted(squares) if squares[node] == -1 and sum(node in pair for pair in pairs) <= 2]


def naive_left(tree, nodes):
    """[13.4], one node behind the other: the squares and the pairs that are left, None if a node cannot be taken."""
    squares, pairs = dict(enumerate(tree.squares)), {frozenset(pair) for pair in tree.joined}
    for node in nodes:
        if node not in naive_takable(squares, pairs):
            return None
        others = sorted({other for pair in pairs if node in pair for other in pair} - {node})
        pairs = {pair for pair in pairs if node not in pair} | ({frozenset(others)} if len(others) == 2 else set())
        del squares[node]
        for other in others:
            squares[other] += 1
    return squares, pairs


def numbered_anew(tree, nodes):
    """The tree with the node k in the place of the node nodes[k]."""
    places = {node: k for k, node in enumerate(nodes)}
    pairs = sorted(tuple(sorted((places[i], places[j]))) for i, j in tree.joined)
    return Tree(tuple(tree.squares[node] for node in nodes), tuple(pairs))


class TakingTest(PlainTest):

    def test_examples(self):
        self.examples(EXAMPLES, dict(vars(taking), **vars(trees)))

    def test_all_sequences_of_small_trees(self):
        down = 0
        for tree in small_trees(4, (-3, -2, -1)):
            sequences = list(permutations(range(len(tree))))
            right = [nodes for nodes in sequences if naive_left(tree, nodes) is not None]
            down += bool(right)
            found = take_down(tree)
            self.assertTrue(found in right if right else found is None)
            for nodes in sequences:
                self.assertIs(is_taking_down(tree, nodes), nodes in right)
            self.same(takable(tree), tuple(naive_takable(dict(enumerate(tree.squares)), tree.joined)))
            # [13.5]: the origin is the same each time.
            self.assertLessEqual(len({nodes[-1] for nodes in right}), 1)
        self.assertGreater(down, 20)

    def test_every_sequence_goes_on(self):
        # [13.5], [0.20]
        for prime, points in tuples_to_try()[::3]:
            tree = tree_of(prime, points)
            for turn in range(3):
                left, nodes = dict(enumerate(tree.squares)), ()
                while left:
                    ready = naive_takable(*naive_left(tree, nodes))
                    nodes += (ready[(turn * 5 + len(nodes)) % len(ready)],)
                    left, _ = naive_left(tree, nodes)
                self.assertIs(is_taking_down(tree, nodes), True)
                self.same(nodes[-1], 0)

    def test_left(self):
        for tree in list(small_trees(4, (-2, -1)))[::2] + [tree_of(*pair) for pair in tuples_to_try()[::5]]:
            nodes = take_down(tree) or takable(tree)[:1]
            for many in range(len(nodes) + 1):
                squares, pairs = naive_left(tree, nodes[:many])
                left, rest = left_by(tree, nodes[:many])
                self.same(left, tuple(sorted(squares)))
                if not left:
                    self.same(rest, None)
                    continue
                self.assertEqual(rest, numbered_anew_by(squares, pairs))
                self.assertIsInstance(rest, Tree)

    def test_empty_and_whole_sequence(self):
        for tree in (THREE, TINY, FORK, Tree((-1,), ()), Tree((-2,) * 60, SIXTY_PATH)):
            self.same(left_by(tree, ()) == (tuple(range(len(tree))), tree), True)
            self.assertIs(is_taking_down(tree, ()), False)
        self.same([left_by(Tree((-1,), ()), (0,)), take_down(Tree((-1,), ())), takable(Tree((-1,), ()))], [((), None), (0,), (0,)])
        self.same([take_down(Tree((square,), ())) for square in (-2, 0, 1, -1000)], [None] * 4)
        for points in (CHAIN, SPIRAL, WIDE):
            tree = tree_of(31, points)
            nodes = take_down(tree)
            self.same([sorted(nodes), nodes[-1]], [list(range(60)), 0])
            self.same(left_by(tree, nodes), ((), None))
            self.assertIs(is_taking_down(tree, nodes), True)

    def test_trees_that_stay(self):
        self.same([takable(FORK), take_down(FORK), takable(PAIR), take_down(PAIR)], [(), None, (0, 1), None])
        self.same([takable(STAY), take_down(STAY), takable(Tree((0,), ())), take_down(Tree((1, -1), ((0, 1),)))], [(), None, (), None])
        # The squares that are left may be greater than those that can be passed.
        left, rest = left_by(Tree((1000, -1, -3), ((0, 1), (1, 2))), (1,))
        self.same([left, rest.squares, rest.joined, str(rest), takable(rest), determinant(rest)],
                  [(0, 2), (1001, -2), ((0, 1),), "1001 -2, 0-1", (), -2003])
        self.same([is_negative(rest), rest == rest, rest == Tree((1000, -2), ((0, 1),)), take_down(rest)], [False, True, False, None])
        self.same(left_by(rest, ()) == ((0, 1), rest), True)
        # [13.9]
        eight = Tree((-2,) * 8, ((0, 1), (1, 2), (2, 3), (2, 7), (3, 4), (4, 5), (5, 6)))
        self.same([determinant(eight), is_negative(eight), take_down(eight)], [1, True, None])

    def test_wrong_sequences(self):
        wrong = (None, True, 0, 2, "", "2", [], [2], {}, {2: 1}, (0,), (1,), (3,), (-1,), (2, 0), (2, 2), (2, 1, 1), (2, 1, 0, 0),
                 (True,), (2, True), (2, True, 0), (2, 1, False), (None,), ("2",), ((2,),), ([2],), (2, [1]), ({},), (SIXTY,), (-SIXTY_ONE,),
                 (CUSP,), THREE)
        self.judges(is_taking_down, (THREE,), ((2, 1, 0),), wrong + ((), (2,), (2, 1)))
        self.refused(InvalidPaper, left_by, (THREE, ()), 1, wrong)
        self.judges(is_taking_down, (PAIR,), (), ((0, 1), (1, 0), (0,), ()))
        for nodes in ((0, 1), (1, 0), (0, 0)):
            self.raised(InvalidPaper, left_by, PAIR, nodes)

    def test_refuse(self):
        for call in (takable, take_down):
            self.refused(InvalidTree, call, (THREE,), 0, NO_TREES)
        for call in (is_taking_down, left_by):
            self.refused(InvalidTree, call, (THREE, (2,)), 0, NO_TREES)
            self.refused(InvalidTree, call, (THREE, None), 0, NO_TREES)


def numbered_anew_by(squares, pairs):
    """The tree of squares and pairs, with its nodes numbered in their order."""
    left = sorted(squares)
    joined = sorted(tuple(sorted(left.index(node) for node in pair)) for pair in pairs)
    return Tree(tuple(squares[node] for node in left), tuple(joined))


class PointsTest(PlainTest):

    def test_points_make_their_trees(self):
        for prime, points in tuples_to_try() + [(31, CHAIN), (2, SPIRAL), (31, WIDE)]:
            tree = tree_of(prime, points)
            for nodes in (range(len(points)), range(len(points) - 1, -1, -1), sorted(range(len(points)), key=lambda k: k * 7 % 11)):
                other = numbered_anew(tree, list(nodes))
                self.assertIs(are_points_with(prime, other, tuple(points[node] for node in nodes)), True)
                found = points_with(prime, other)
                self.assertIs(are_points_with(prime, other, found), True)
                made = tree_of(prime, tuple(sorted(found)))
                self.assertEqual(other, numbered_anew(made, [sorted(found).index(point) for point in found]))
                # [13.5]: which points are near which ones.
                pairs = {(i, j) for i, one in enumerate(found) for j, two in enumerate(found) if two in near_points(one)}
                wanted = {(i, j) for i, one in enumerate(nodes) for j, two in enumerate(nodes) if points[two] in near_points(points[one])}
                self.same(sorted(pairs), sorted(wanted))

    def test_all_points_of_small_trees(self):
        # [0.6]: all tuples of points over 2 that could be those of a tree.
        known = {many: full_tuples(2, many) for many in range(1, 5)}
        right = {}
        for points in known[1] + known[2] + known[3] + known[4]:
            tree = tree_of(2, points)
            for nodes in permutations(range(len(points))):
                right.setdefault(str(numbered_anew(tree, nodes)), set()).add(tuple(points[k] for k in nodes))
        for tree in small_trees(4, (-4, -3, -2, -1)):
            wanted = right.get(str(tree), set())
            found = points_with(2, tree)
            self.assertTrue(found in wanted if wanted else found is None)
            for points in wanted:
                self.assertIs(are_points_with(2, tree, points), True)
            if len(tree) < 4:
                for points in known[len(tree)]:
                    for nodes in permutations(points):
                        self.assertIs(are_points_with(2, tree, nodes), nodes in wanted)

    def test_too_many_points_asked_for(self):
        # [13.6]: over the origin, over another point, over a corner.
        for prime in FEW_PRIMES + (7, 29):
            for many in (prime + 1, prime + 2):
                star = Tree((-1 - many,) + (-1,) * many, tuple((0, k) for k in range(1, many + 1)))
                self.same(points_with(prime, star) is None, many > prime + 1)
            for below in ((0,), (0, -1), (0, -1, 0), (0, 0)):
                corners = len(near_points(below))
                letters = list(range(-1 + corners, prime))
                points = tuple(sorted({below[:height] for height in range(len(below) + 1)} | {below + (k,) for k in letters}))
                tree = tree_of(prime, points)
                self.assertIs(are_points_with(prime, tree, points_with(prime, tree)), True)
                # One free point more over the same one.
                node = points.index(below)
                squares = tuple(square - (at == node) for at, square in enumerate(tree.squares)) + (-1,)
                more = Tree(squares, tuple(sorted(tree.joined + ((node, len(tree)),))))
                self.same([points_with(prime, more), take_down(more) is None], [None, False])
                greater = {2: 3, 3: 5, 5: 7, 7: 11, 29: 31, 31: None}[prime]
                if greater:
                    self.assertIs(are_points_with(greater, more, points_with(greater, more)), True)

    def test_trees_that_stay(self):
        for tree in some_trees(60, -3, 0) + [TINY, FORK, PAIR, STAY, Tree((-2,) * 60, SIXTY_PATH), Tree((-1,) * 60, SIXTY_STAR)]:
            found = points_with(31, tree)
            self.assertIs(found is None, take_down(tree) is None)
            if found is not None:
                self.assertIs(are_points_with(31, tree, found), True)

    def test_wrong_points(self):
        right = [((), (letter,), (letter, -1)) for letter in range(-1, 3)]
        wrong = [None, True, 0, "", (), [], {}, ((),), ((), (0,)), [(), (0,), (0, -1)], ((0,), (), (0, -1)), ((), (0, -1), (0,)),
                 ((), (0,), (0, 1)), ((), (0,), (1, -1)), ((), (0,), (0,)), ((), (), ()), ((), (0,), (0, -1), (0, 0)), ((0,), (0, 0), (0, 0, -1)),
                 ((), (3,), (3, -1)), ((), (0,), (0, True)), ((), (False,), (False, -1)), (0, 1, 2), ("", "0", "0 t"), ((), [0], (0, -1)),
                 ((), (0,), None), ((), (0,), [0, -1]), {(): 0, (0,): 1, (0, -1): 2}, CUSPS[::-1], THREE, (CUSP, CUSP, CUSP)]
        self.judges(are_points_with, (3, THREE), right, wrong + [((), (0,), value) for value in NO_POINTS])
        self.judges(are_points_with, (3, Tree((-1,), ())), (((),),), ((), ((0,),), [()], (None,), ((), ()), ([],)))
        self.judges(are_points_with, (3, TINY), (), (None, ((), (0,)), ((0,), ()), ((), ())))
        self.judges(are_points_with, (2, THREE), (CUSPS,), (((), (2,), (2, -1)),))

    def test_refuse(self):
        for further in ((THREE,), (None,)):
            self.refuses_primes(points_with, *further)
            self.refused(InvalidPrime, are_points_with, (3, *further, CUSPS), 0, NO_PRIMES)
        self.refused(InvalidTree, points_with, (3, THREE), 1, NO_TREES)
        self.refused(InvalidTree, are_points_with, (3, THREE, CUSPS), 1, NO_TREES)
        self.refused(InvalidTree, are_points_with, (3, THREE, None), 1, NO_TREES)

    def test_some_more(self):
        for prime, points in product((2, 5), some_full_tuples(2, 20, 14)):
            tree = tree_of(prime, points)
            self.assertIs(are_points_with(prime, tree, points_with(prime, tree)), True)
