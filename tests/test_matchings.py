"""[0.18], [10.3] to [10.6], and touchtowers.curve.matchings."""

from itertools import permutations

from touchtowers.curve import matchings
from touchtowers.curve.curves import Curve
from touchtowers.curve.matchings import all_matchings, bar_between, is_bar, is_matching, matching, type_name
from touchtowers.errors import InvalidCurve
from touchtowers.number.orders import generators_of
from touchtowers.tower.points import corners_of, counts_of
from touchtowers.tower.touches import touch
from touchtowers.word.words import Branch, shared_height
from tests.helpers import (BOW, CUSP, DEEP, FOUR, HOOK, LINE, SIDE, STEEP, TALL, WILD, PlainTest, plain)
from tests.test_curves import NO_CURVES, SIX, some_curves

EXAMPLES = """
>>> both, pair = Curve((CUSP, LINE)), Curve((HOOK, CUSP))
>>> SKEW, SIDED = Curve((CUSP, Branch(3, (0, 2)))), Curve((SIDE, CUSP))
>>> [matching(both, SKEW), all_matchings(pair, pair), matching(both, SIDED), is_bar(both, SIDED, {0: {1: 0}, 1: -1}), is_bar(both, SIDED, {0: {1: 0}, 1: {0: 0}}), is_bar(both, SIDED, {0: -1, 1: -1})]
[(1, 0), ((0, 1), (1, 0)), None, True, True, False]
>>> [is_bar(both, SIDED, bar_between(both, SIDED)), bar_between(both, SKEW), is_bar(both, pair, ()), bar_between(both, Curve((LINE,)))]
[True, None, False, ()]
>>> [type_name(both), type_name(pair), matching(both, Curve((Branch(2, ()), WILD)))]
[(((1,), (2, 3)), ((), (3,))), (((2, 3), (2, 3)), ((), (6,))), (0, 1)]
"""
BOTH, PAIR, SIDED = Curve((CUSP, LINE)), Curve((HOOK, CUSP)), Curve((SIDE, CUSP))
STAR = Curve(tuple(Branch(7, (at,)) for at in range(1, 7)))
CHAIN = Curve(tuple(Branch(2, (0,) * at + (1,)) for at in range(6)))
TWINS = Curve(tuple(Branch(3, word) for word in ((0, 1), (0, 2), (1, 0, 1), (1, 0, 2), (2,), (2, 1))))


def naive_matchings(one, other):
    """[10.3], over all bijections."""
    if len(one) != len(other):
        return ()
    first, second = one.branches, other.branches
    found = []
    for value in permutations(range(len(one))):
        alike = all(generators_of(first[i]) == generators_of(second[value[i]]) for i in range(len(one)))
        touches = all(touch(first[i], first[j]) == touch(second[value[i]], second[value[j]])
                      for i in range(len(one)) for j in range(i))
        if alike and touches:
            found.append(value)
    return tuple(found)


def naive_name(curve):
    """[10.4], over all sequences."""
    return min((tuple(generators_of(branch) for branch in branches),
                tuple(tuple(touch(branch, other) for other in branches[:at]) for at, branch in enumerate(branches)))
               for branches in permutations(curve.branches))


def pairs_to_try():
    found = some_curves(2, 14, 3) + some_curves(3, 10, 2) + some_curves(5, 8, 1) + [BOTH, PAIR, SIDED, Curve((WILD,))]
    found = [curve for curve in found if len(curve) < 5] + [Curve((CUSP,)), Curve((HOOK,)), Curve((DEEP, FOUR))]
    return [(one, other) for one in found for other in found[::2]] + [
        (CHAIN, STAR), (CHAIN, CHAIN), (TWINS, TWINS), (TWINS, CHAIN), (STAR, Curve(SIX)), (Curve(SIX), Curve(SIX))]


def chains(curve):
    """[0.18]: the counts and corners of the branches, and the heights of shared points."""
    return [(counts_of(branch, 60), corners_of(branch)) for branch in curve.branches]


class MatchingTest(PlainTest):

    def test_examples(self):
        self.examples(EXAMPLES, dict(vars(matchings), Curve=Curve, Branch=Branch))

    def test_matchings(self):
        for one, other in pairs_to_try():
            wanted = naive_matchings(one, other)
            self.same(all_matchings(one, other), wanted)
            found = matching(one, other)
            if wanted:
                self.assertIn(found, wanted)
                self.same(bar_between(one, other), None)
                # [10.3]
                self.same(len(wanted), len(all_matchings(one, one)))
            else:
                self.same(found, None)
                self.assertIs(is_bar(one, other, bar_between(one, other)), True)
            self.assertIs(type_name(one) == type_name(other), bool(wanted))
            if len(one) == len(other) and len(one) < 5:
                for value in permutations(range(len(one))):
                    self.assertIs(is_matching(one, other, value), value in wanted)

    def test_types_by_counts(self):
        # [0.18]: the same as keeping the counts, the corners, and the heights of shared points.
        for one, other in pairs_to_try()[::3]:
            if len(one) != len(other) or len(one) > 4:
                continue
            first, second = chains(one), chains(other)
            kept = [value for value in permutations(range(len(one)))
                    if all(first[i] == second[value[i]] for i in range(len(one)))
                    and all(shared_height(one.branches[i], one.branches[j])
                            == shared_height(other.branches[value[i]], other.branches[value[j]])
                            for i in range(len(one)) for j in range(i))]
            self.assertIs(len(kept) > 0, matching(one, other) is not None)

    def test_type_names(self):
        for curve in some_curves(2, 14) + some_curves(3, 8, 3) + [BOTH, PAIR, SIDED, TWINS, CHAIN, Curve(SIX)]:
            self.same(type_name(curve), naive_name(curve))
        self.same(type_name(Curve((FOUR,))), (((4, 6, 13),), ((),)))
        self.same(type_name(STAR), (((1,),) * 6, tuple((1,) * at for at in range(6))))

    def test_one_branch_and_six(self):
        self.same([matching(Curve((CUSP,)), Curve((WILD,))), all_matchings(Curve((LINE,)), Curve((SIDE,)))], [(0,), ((0,),)])
        self.same([bar_between(Curve((CUSP,)), Curve((LINE,))), bar_between(Curve((CUSP,)), BOTH)], [{0: -1}, ()])
        self.same([len(all_matchings(curve, curve)) for curve in (STAR, CHAIN, TWINS)], [720, 2, 16])
        self.same(matching(STAR, CHAIN), None)

    def test_wrong_matchings(self):
        right = ((0, 1), (1, 0))
        wrong = (None, True, 0, "", "01", (), (0,), (1,), (0, 0), (1, 1), (0, 2), (-1, 0), (0, 1, 2), [0, 1], {0: 1}, (0, True),
                 (False, 1), (True, 0), (True, False), (0, None), ("0", "1"), ((0, 1),), ((0,), (1,)), (0, 10 ** 60), PAIR)
        self.judges(is_matching, (PAIR, PAIR), right, wrong)
        self.judges(is_matching, (BOTH, SIDED), (), right + wrong)
        self.judges(is_matching, (BOTH, Curve((CUSP,))), (), right + wrong)
        self.judges(is_matching, (Curve((CUSP,)), Curve((WILD,))), ((0,),), ((False,), (), 0, (1,), (0, 0)))


class BarTest(PlainTest):

    def test_bars(self):
        for one, other in pairs_to_try():
            found = bar_between(one, other)
            self.assertIs(found is None, matching(one, other) is not None)
            if found is not None:
                self.assertIs(is_bar(one, other, found), True)
                if len(one) == len(other):
                    self.ascends(found)
                    self.assertIs(is_bar(other, other, found), False)
                    self.assertIs(is_bar(one, other, ()), False)

    def ascends(self, node):
        self.same(list(node), sorted(node))
        for value in node.values():
            if isinstance(value, dict):
                self.ascends(value)

    def test_unlike_numbers(self):
        one = Curve((CUSP,))
        self.same([bar_between(one, PAIR), bar_between(PAIR, one), bar_between(one, Curve(SIX))], [(), (), ()])
        wrong = (None, False, 0, "", [], {}, {0: -1}, {0: -1, 1: -1}, ((),), (0,), (-1,), PAIR)
        self.judges(is_bar, (one, PAIR), ((),), wrong)
        self.judges(is_bar, (PAIR, one), ((),), wrong)

    def test_every_right_bar(self):
        # Nodes may go on where something stands against a branch already.
        right = ({0: {1: 0}, 1: -1}, {0: {1: 0}, 1: {0: 0}}, {1: -1, 0: {1: 0}}, {1: {0: -1}, 0: {1: 0}})
        wrong = (None, True, 0, -1, "", (), [], {}, {0: {1: 0}}, {1: -1}, {0: -1, 1: -1}, {0: {1: -1}, 1: -1}, {0: 0, 1: -1},
                 {0: {1: 0}, 1: 0}, {0: {1: 1}, 1: -1}, {0: {0: 0}, 1: -1}, {0: {0: 0, 1: 0}, 1: -1}, {0: {1: 0}, 1: -1, 2: -1},
                 {0: {1: False}, 1: -1}, {False: {1: 0}, 1: -1}, {0: {True: 0}, 1: -1}, {0: {1: 0}, True: -1},
                 {0: {1: {}}, 1: -1}, {0: {1: {0: 0}}, 1: -1}, {0: {}, 1: -1}, {0: {1: 0}, 1: {}}, {0: {1: 0}, 1: None},
                 {0: {1: None}, 1: -1}, {0: {1: "0"}, 1: -1}, {0: ((1, 0),), 1: -1}, {0: {1: 0}, 1: -2}, {"0": {1: 0}, 1: -1},
                 {None: {1: 0}, 1: -1}, {(0,): {1: 0}, 1: -1}, {0: {1: 0}, 1: (-1,)}, {0: {1: 0}, 1: -10 ** 60}, [{1: 0}, -1],
                 (({1: 0}), -1), {0: {1: [0]}, 1: -1}, BOTH)
        self.judges(is_bar, (BOTH, SIDED), right, wrong)

    def test_full_matchings_have_no_nodes(self):
        # A node without keys is none, however well it fits.
        for one in (BOTH, PAIR, Curve((CUSP,)), CHAIN):
            self.assertIs(is_bar(one, one, {}), False)
            self.assertIs(is_bar(one, one, ()), False)
        self.assertIs(is_bar(Curve((CUSP,)), Curve((WILD,)), {0: {}}), False)
        self.assertIs(is_bar(Curve((CUSP,)), Curve((LINE,)), {0: {}}), False)
        self.assertIs(is_bar(PAIR, PAIR, {0: {1: {}}, 1: {0: {}}}), False)

    def test_changed_bars(self):
        one, other = Curve((CUSP, HOOK, LINE, SIDE)), Curve((CUSP, Branch(3, (0, -1, 1, 1)), LINE, SIDE))
        found = bar_between(one, other)
        self.assertIs(is_bar(one, other, found), True)
        before = plain(found)
        for changed in self.with_one_change(found):
            self.assertIs(is_bar(one, other, changed), False, plain(changed))
        self.same(plain(found), before)
        self.same(plain(bar_between(one, other)), before)

    def with_one_change(self, node):
        """The bar with one leaf exchanged for what is surely wrong, or without one key."""
        for key in node:
            rest = {other: node[other] for other in node if other != key}
            yield rest
            yield dict(rest, **{"x": node[key]})
            if isinstance(node[key], dict):
                for changed in self.with_one_change(node[key]):
                    yield rest | {key: changed}
            else:
                for wrong in (None, -2, 9, True, "0"):
                    yield rest | {key: wrong}

    def test_not_true(self):
        # [10.6]
        one, other = Curve((CUSP, LINE)), Curve((LINE, Branch(3, (0, 0, 0, 1))))
        self.same([one.milnor, other.milnor, matching(one, other)], [7, 7, None])
        one, other = Curve((LINE, SIDE)), Curve((LINE, Branch(3, (0, 1))))
        self.same(matching(one, other), None)
        self.assertIs(matching(one.without_branch(SIDE), other.without_branch(LINE)) is not None, True)

    def test_refuse(self):
        for call in (matching, all_matchings, bar_between):
            self.refused(InvalidCurve, call, (BOTH, PAIR), 0, NO_CURVES)
            self.refused(InvalidCurve, call, (BOTH, PAIR), 1, NO_CURVES)
            self.refused(InvalidCurve, call, (BOTH, None), 0, NO_CURVES)
        for call in (is_matching, is_bar):
            self.refused(InvalidCurve, call, (BOTH, PAIR, ()), 0, NO_CURVES)
            self.refused(InvalidCurve, call, (BOTH, PAIR, ()), 1, NO_CURVES)
        self.refused(InvalidCurve, type_name, (BOTH,), 0, NO_CURVES)
        self.same([matching(Curve((TALL,)), Curve((STEEP,))), matching(Curve((BOW,)), Curve((LINE,)))], [None, (0,)])
