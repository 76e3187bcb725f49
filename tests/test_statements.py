"""[0.2], [0.4], [0.5], and the main statements [0.16] to [0.22], over the whole program."""

import importlib

from touchtowers import errors
from touchtowers.base.rows import Row
from touchtowers.curve.curves import Curve
from touchtowers.curve.matchings import matching, type_name
from touchtowers.number.orders import gaps, generators_of, is_order, lacked_by_orders
from touchtowers.plait.plaits import by_plait, cabled
from touchtowers.plait.polynomials import by_orders, by_tree, product_of
from touchtowers.ring.rings import lacked_by_rank, touch_by_rank
from touchtowers.roll.rolls import row_of
from touchtowers.tower.points import count_at, counts_of, reduced_counts
from touchtowers.tower.touches import smooth_touch, touch
from touchtowers.tree.resolving import crossings, least_points
from touchtowers.tree.taking import are_points_with, is_taking_down, points_with, take_down
from touchtowers.tree.trees import Tree, crossing_table, tree_of
from touchtowers.use.bench import Bench
from touchtowers.weight.planes import conditions, is_through, through
from touchtowers.weight.unloading import unloaded
from touchtowers.weight.weights import Weights, parts_of, single
from touchtowers.word.ways import Plane, order_on
from touchtowers.word.words import Branch
from tests.helpers import (CUSP, DEEP, FEW_PRIMES, FOUR, HOOK, LINE, SIDE, SIXTY_ONE, PlainTest, small_branches)
from tests.test_interface import FUNCTIONS

STRANGE = (None, True, False, 0, 1, -1, 7, 61, 10 ** 99, -10 ** 99, "", "a", "prime 3", ".", "0 t 1", "x" * 4000, (), (0,), (1,), (True,), (None,),
           ((),), ((), ()), (1, (0,)), (2, (0, True)), ((0, 1),), ("let", "a"), (2, 3), (((((((1,),),),),),),), [], [0], [[]], {}, {(): 1}, {1: 1},
           {"a": "b"}, {0: {0: {0: -1}}}, {(): True}, ((0,), {}), ({},), ([],), (0,) * 500, LINE, CUSP, Row(3, (0, 1)), Plane(3, {(1, 0): 1}),
           Curve((LINE,)), Weights(3, {(): 1}), Tree((-1,), ()), Bench(3), Bench(2), (CUSP,), (Plane(3, {}),), errors.InvalidCount(3), SIXTY_ONE)
# For each parameter a value that is right, over 3.
RIGHT = {"prime": 3, "table": ((1, 2), (0, 1)), "goal": (1, 0), "one": Curve((LINE,)), "other": Curve((CUSP,)), "generators": (2, 3), "number": 5,
         "branches": (CUSP,), "branch": CUSP, "order": 2, "weights": Weights(3, {(): 1}), "degree": 2, "tree": Tree((-1,), ())}


def branches_to_try(prime, most):
    return [branch for branch in small_branches(prime, most) if Curve((branch,)).lacked <= 12]


class JudgingTest(PlainTest):

    def test_every_value_is_judged(self):
        # [0.5]
        seen = 0
        for place, names in FUNCTIONS.items():
            module = importlib.import_module("touchtowers." + place)
            for text in names.split():
                name, _, rest = text.partition("(")
                parameters = rest.rstrip(")").split(",")
                if not name.startswith(("is_", "are_")) or parameters[-1] != "value":
                    continue
                passed = [RIGHT[parameter] for parameter in parameters[:-1]]
                for value in STRANGE:
                    self.assertIs(type(vars(module)[name](*passed, value)), bool, name)
                seen += 1
        self.assertEqual(seen, 28)

    def test_every_value_can_be_compared(self):
        # [0.2]
        objects = (LINE, CUSP, Row(3, (0, 1)), Plane(3, {(1, 0): 1}), Curve((LINE,)), Weights(3, {(): 1}), Tree((-1,), ()), Bench(3))
        for at, one in enumerate(objects):
            for value in STRANGE:
                equal = type(one) is type(value) and str(one) == str(value) and not isinstance(one, (Plane, Weights))
                if not isinstance(one, (Plane, Weights)):
                    self.assertIs(one == value, equal)
                    self.assertIs(one != value, not equal)
            for other_at, other in enumerate(objects):
                self.assertIs(one == other, at == other_at)
        for one in (LINE, Curve((LINE,)), Weights(3, {(): 1}), Bench(3)):
            for value in STRANGE:
                self.assertIs(type(value in one), bool)
        for one in (Row(3, (0, 1)), Plane(3, {(1, 0): 1}), Tree((-1,), ()), Bench(3).trial()):
            self.raised(TypeError, iter, one)

    def test_every_first_argument_is_checked(self):
        # [0.4]: whatever the further arguments are, the error of the first one comes, and no other.
        wanted = {"prime": errors.InvalidPrime, "branch": errors.InvalidWord, "curve": errors.InvalidCurve, "weights": errors.InvalidWeights,
                  "plane": errors.InvalidPlane, "tree": errors.InvalidTree, "generators": errors.InvalidOrders, "plait": errors.InvalidPlait,
                  "row": (errors.InvalidRow, errors.InvalidOrders), "branches": errors.InvalidCurve, "factors": errors.InvalidTable,
                  "polynomial": errors.InvalidTable, "exponents": errors.InvalidOrders, "lacked": errors.InvalidCount, "squares": errors.InvalidTree,
                  "numbers": errors.InvalidOperation, "x": errors.InvalidRow, "one": (errors.InvalidWord, errors.InvalidCurve, errors.InvalidWeights)}
        for place, names in FUNCTIONS.items():
            module = importlib.import_module("touchtowers." + place)
            for text in names.split():
                name, _, rest = text.partition("(")
                parameters = rest.rstrip(")").split(",")
                if parameters[0] == "value" or name.startswith("each_"):
                    continue
                for value in (None, True, "", (None,) * 500, [], {0: None}, ({},), errors.InvalidCount(3)):
                    with self.assertRaises(wanted[parameters[0]], msg=f"{name} {value!r}"):
                        vars(module)[name](value, *[None for _ in parameters[1:]])


class StatementTest(PlainTest):

    def test_touching(self):
        # [0.16]
        for prime, most in ((2, 4), (3, 3), (31, 1)):
            found = branches_to_try(prime, most)[:40]
            for at, one in enumerate(found):
                for other in found[:at:3]:
                    wanted = touch(one, other)
                    curve = Curve((one, other))
                    self.same(curve.lacked - Curve((one,)).lacked - Curve((other,)).lacked, wanted)
                    if curve.lacked <= 20:
                        self.same(touch_by_rank(one, other), wanted)
                    if one.is_smooth and one.letter_at(0) != -1:
                        row = Row(prime, (0,) + one.word)
                        self.same(smooth_touch(other, row), wanted)
                        equation = {(power, 0): -entry % prime for power, entry in enumerate(row.entries) if entry}
                        self.same(order_on(Plane(prime, equation | {(0, 1): 1}), other), wanted)
                    points = least_points(curve)
                    tops = [points.index(max(point for point in points if point in branch)) for branch in (one, other)]
                    self.same(crossing_table(tree_of(prime, points))[tops[0]][tops[1]], wanted)

    def test_lacking(self):
        # [0.17]
        for prime, most in ((2, 5), (3, 3), (5, 3), (31, 1)):
            for branch in branches_to_try(prime, most)[:60]:
                wanted = sum(count * (count - 1) // 2 for count in counts_of(branch, 60))
                numbers = generators_of(branch)
                self.same([len(gaps(numbers)), lacked_by_orders(numbers), lacked_by_rank((branch,)), Curve((branch,)).lacked], [wanted] * 4)
                self.same(row_of(numbers), reduced_counts(branch))

    def test_types(self):
        # [0.18]
        found = [Curve((one, other)) for at, one in enumerate(small_branches(2, 3)) for other in small_branches(2, 3)[:at:2]]
        for one in found[::4]:
            for other in found[::5]:
                self.assertIs(matching(one, other) is not None, type_name(one) == type_name(other))

    def test_weights(self):
        # [0.19]
        for prime in FEW_PRIMES:
            points = ((), (0,), (0, -1), (0, -1, 0), (1,), (1, 1))
            for amounts in ((1, 2, 0, 1, 3, -1), (0, 0, 0, 2, 0, 1), (2, 1, 1, 0, 1, 0), (-2, 1, 1, 1, 1, 1)):
                weights = Weights(prime, dict(zip(points, amounts)))
                total = weights.multiplied(0)
                for point, many in parts_of(weights).items():
                    total = total.plus(single(prime, point).multiplied(many))
                self.assertIs(total == weights, True)
                let = unloaded(weights)
                self.same([let.is_let, conditions(let, 15), conditions(weights, 15)], [True, let.conditions, let.conditions])
                for plane in through(weights, 3):
                    self.assertIs(is_through(let, plane), True)

    def test_trees(self):
        # [0.20]
        for prime in (2, 3, 31):
            for curve in (Curve((Branch(prime, (0, -1, 1)),)), Curve(tuple(Branch(prime, word) for word in ((), (-1, -1, 0, 1), (1, 0, 1))))):
                points = least_points(curve)
                tree = tree_of(prime, points)
                self.assertIs(is_taking_down(tree, take_down(tree)), True)
                self.assertIs(are_points_with(prime, tree, points), True)
                self.assertIs(are_points_with(prime, tree, points_with(prime, tree)), True)

    def test_one_polynomial(self):
        # [0.21]
        for prime, most in ((2, 6), (3, 4), (31, 1)):
            for branch in small_branches(prime, most)[::5]:
                numbers = generators_of(branch)
                self.same(by_tree(Curve((branch,))), by_orders(numbers))
                if numbers[0] <= 6:
                    self.same(by_plait(numbers), by_orders(numbers))

    def test_not_true(self):
        # [0.22]
        self.same([lacked_by_orders((4, 7)), lacked_by_orders((4, 6, 15))], [9, 9])
        self.same([touch(CUSP, HOOK), touch(CUSP, SIDE), touch(HOOK, SIDE)], [6, 2, 2])
        self.same([row_of((3, 5)), row_of((2, 3))], [(3, 2, 1), (2, 1)])
        self.same([count_at(CUSP, 0), sum(Weights(3, {(): 2}).rests.values()), len(Curve((CUSP,)))], [2, 2, 1])
        self.same([is_order((4, 6, 13), number) for number in (13, 6, 4, 13 + 6 - 4)], [True, True, True, False])

    def test_arguments_stay(self):
        # [0.2]
        factors, table, numbers = {6: 1, 1: 1, 3: -1, 2: -1}, {(0,): 1, (): 2}, {(0, 1): 1}
        product_of(factors), Weights(3, table), Plane(3, numbers), cabled((2, (0,)), 2, 1)
        self.same([factors, table, numbers], [{6: 1, 1: 1, 3: -1, 2: -1}, {(0,): 1, (): 2}, {(0, 1): 1}])
        found = [crossings(Curve((CUSP,))), parts_of(Weights(3, {(): 2}))]
        for given in found:
            given[()] = 99
        self.same([crossings(Curve((CUSP,)))[()], parts_of(Weights(3, {(): 2}))], [0, {(): 2}])
        for branch in (FOUR, DEEP):
            before = branch.word
            by_tree(Curve((branch,))), least_points(Curve((branch,)))
            self.same(branch.word, before)
