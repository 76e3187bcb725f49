"""[0.16], [13.7] to [13.9], and touchtowers.tree.resolving."""

from touchtowers.curve.curves import Curve
from touchtowers.curve.matchings import matching
from touchtowers.errors import InvalidCurve, InvalidPoint, TooMany
from touchtowers.tower.points import near_points
from touchtowers.tree import resolving
from touchtowers.tree.resolving import crossings, least_points, numbers_of_k, numbers_on
from touchtowers.tree.trees import crossing_table, tree_of
from touchtowers.word.words import Branch
from tests.helpers import (BOW, CUSP, DEEP, FEW_PRIMES, FOUR, HOOK, LINE, SIDE, STEEP, TALL, WILD, PlainTest, small_branches)
from tests.test_curves import LONG, NO_CURVES, SIX, some_curves
from tests.test_matchings import CHAIN, STAR, TWINS
from tests.test_points import near_by_definition
from tests.test_trees import CHAIN as CHAIN_POINTS
from tests.test_trees import CUSPS, NOT_FULL, tuples_to_try

EXAMPLES = """
>>> CUSPS = ((), (0,), (0, -1))
>>> [least_points(Curve((CUSP,))) == CUSPS, numbers_on(Curve((CUSP,))), crossings(Curve((CUSP,))), numbers_of_k(3, CUSPS), least_points(Curve((LINE,))), crossings(Curve((LINE, SIDE)))]
[True, {(): 2, (0,): 3, (0, -1): 6}, {(): 0, (0,): 0, (0, -1): 1}, {(): 1, (0,): 2, (0, -1): 4}, ((),), {(): 2}]
"""
# Sixty least points on one branch, and on several; the last ones have one more.
LONG_ONE = Curve((Branch(3, (0,) * 58 + (-1, 1)),))
LONG_TWO = Curve((Branch(2, ()), Branch(2, (0,) * 59 + (1,))))
LONG_THREE = Curve((Branch(3, ()), Branch(3, (0,) * 58 + (1,)), Branch(3, (-1,)), Branch(3, (-1, 1))))
TOO_LONG = Curve((Branch(3, ()), Branch(3, (0,) * 59 + (1,)), Branch(3, (-1,)), Branch(3, (-1, 1))))


def corner(point):
    return sum(near_by_definition(point, point[:height]) for height in range(len(point))) == 2


def naive_least(curve):
    """[13.7], word by word."""
    found = []
    for point in curve.points_to(60):
        above = [branch.point_at(len(point) + 1) for branch in curve.branches if len(point) < 60 and point in branch]
        if point == () or corner(point) or curve.count_on(point) > 1 or any(corner(other) for other in above):
            found.append(point)
    return tuple(found)


def naive_worths(points, least):
    worths = {}
    for point in sorted(points, key=len):
        worths[point] = least[point] + sum(worths[other] for other in points if near_by_definition(point, other))
    return {point: worths[point] for point in sorted(points)}


def curves_to_try():
    found = [Curve((branch,)) for branch in (LINE, SIDE, BOW, CUSP, HOOK, FOUR, TALL, STEEP, DEEP, WILD)]
    for prime, most in ((2, 4), (3, 3), (7, 2)):
        found.extend(Curve((branch,)) for branch in small_branches(prime, most))
    for prime in FEW_PRIMES:
        found.extend(some_curves(prime, 18, 4 if prime < 5 else 2 if prime < 30 else 1))
    return found + [Curve(SIX), STAR, CHAIN, TWINS, Curve(LONG[:2]), LONG_ONE, LONG_TWO, LONG_THREE]


class ResolvingTest(PlainTest):

    def test_examples(self):
        self.examples(EXAMPLES, dict(vars(resolving), Curve=Curve))

    def test_least_points(self):
        for curve in curves_to_try():
            points = least_points(curve)
            self.same(points, naive_least(curve))
            # They are a full tuple.
            self.same(len(tree_of(curve.prime, points)), len(points))

    def test_crossings(self):
        for curve in curves_to_try():
            points = least_points(curve)
            wanted = {point: 0 for point in points}
            places = []
            for branch in curve.branches:
                top = max([point for point in points if point in branch], key=len)
                wanted[top] += 1
                above = branch.point_at(len(top) + 1)
                # On no other exceptional curve, and at no place of another branch.
                self.same(near_points(above), (top,))
                places.append(above)
            self.same(crossings(curve), wanted)
            self.same(list(crossings(curve)), sorted(wanted))
            self.same(len(set(places)), len(curve))

    def test_numbers(self):
        for curve in curves_to_try():
            points = least_points(curve)
            self.same(numbers_on(curve), naive_worths(points, {point: curve.count_on(point) for point in points}))
        for prime, points in tuples_to_try() + [(2, CHAIN_POINTS)]:
            self.same(numbers_of_k(prime, points), naive_worths(points, {point: 1 for point in points}))

    def test_sums_of_numbers(self):
        # [13.8]
        for curve in curves_to_try():
            numbers, many = list(numbers_on(curve).values()), list(crossings(curve).values())
            tree = tree_of(curve.prime, least_points(curve))
            for node, square in enumerate(tree.squares):
                beside = sum(numbers[other] for other in tree.beside(node))
                self.same(square * numbers[node] + beside + many[node], 0)
            total = sum(numbers[node] * (len(tree.beside(node)) + many[node] - 2) for node in range(len(tree)))
            self.same(total, curve.milnor - 1)
        for prime, points in tuples_to_try():
            numbers, tree = list(numbers_of_k(prime, points).values()), tree_of(prime, points)
            for node, square in enumerate(tree.squares):
                self.same(square * numbers[node] + sum(numbers[other] for other in tree.beside(node)), -2 - square)

    def test_touches_by_tables(self):
        # [0.16]: the table that is inverse to that of the tree has the touches of the branches.
        for curve in curves_to_try():
            points = least_points(curve)
            if len(points) > 20 or len(curve) == 1:
                continue
            table = crossing_table(tree_of(curve.prime, points))
            tops = [max(point for point in points if point in branch) for branch in curve.branches]
            touches = curve.touch_table()
            for i, one in enumerate(tops):
                for j, other in enumerate(tops):
                    if i != j:
                        self.same(table[points.index(one)][points.index(other)], touches[i][j])

    def test_one_branch_and_six(self):
        self.same([least_points(Curve((BOW,))), crossings(Curve((BOW,))), numbers_on(Curve((BOW,)))], [((),), {(): 1}, {(): 1}])
        self.same([least_points(STAR), crossings(STAR), numbers_on(STAR)], [((),), {(): 6}, {(): 6}])
        self.same([len(least_points(CHAIN)), list(crossings(CHAIN).values())], [5, [1, 1, 1, 1, 2]])
        self.same([least_points(Curve((WILD,))), numbers_on(Curve((WILD,)))], [CUSPS, {(): 2, (0,): 3, (0, -1): 6}])

    def test_sixty_points(self):
        for curve in (LONG_ONE, LONG_TWO, LONG_THREE):
            self.same(len(least_points(curve)), 60)
            self.same([len(crossings(curve)), len(numbers_on(curve))], [60, 60])
        self.same(len(naive_least(TOO_LONG)), 61)
        for call in (least_points, crossings, numbers_on):
            self.raised(TooMany(60), call, TOO_LONG)
            self.raised(TooMany(60), call, Curve(LONG))

    def test_not_true(self):
        # [13.9]
        self.same(len(least_points(Curve((LINE, SIDE)))), 1)
        one, other = Curve((LINE, SIDE)), Curve((LINE, SIDE, BOW))
        self.same([least_points(one) == least_points(other), matching(one, other)], [True, None])

    def test_refuse(self):
        for call in (least_points, crossings, numbers_on):
            self.refused(InvalidCurve, call, (STAR,), 0, NO_CURVES)
        self.refuses_primes(numbers_of_k, CUSPS)
        self.refuses_primes(numbers_of_k, None)
        self.refused(InvalidPoint, numbers_of_k, (3, CUSPS), 1, NOT_FULL)
        self.raised(InvalidPoint, numbers_of_k, 2, ((), (2,)))
