"""[10.1], [10.2], and touchtowers.curve.curves."""

from itertools import permutations

from touchtowers.base.rows import Row
from touchtowers.curve import curves
from touchtowers.curve.curves import Curve
from touchtowers.errors import InvalidCount, InvalidCurve, InvalidOperation, InvalidPoint, InvalidWord, TooMany
from touchtowers.ring.rings import lacked_by_rank
from touchtowers.tower.points import count_at_point, counts_of
from touchtowers.tower.touches import touch
from touchtowers.word.words import Branch
from tests.helpers import (BOW, CUSP, DEEP, FEW_PRIMES, FOUR, HOOK, LINE, NO_INTEGERS, SIDE, SIXTY, TALL, WILD,
                           PlainTest, numbers_made, small_branches)
from tests.test_points import near_by_definition
from tests.test_ways import NO_BRANCHES
from tests.test_words import NO_POINTS

EXAMPLES = """
>>> both, pair = Curve((CUSP, LINE)), Curve((HOOK, CUSP))
>>> [both.lacked, both.milnor, pair.lacked, pair.milnor, both.count_on(()), both.count_on((0,)), pair.count_on((0, -1)), pair.count_on((0, 0))]
[4, 7, 8, 15, 3, 2, 2, 0]
>>> [both.points_to(2), both.touch_table(), both.parting_height(), pair.parting_height(), str(pair), len(both), LINE in both, both.without_branch(CUSP) == Curve((LINE,))]
[((), (0,), (0, -1), (0, 0)), ((None, 3), (3, None)), 2, 3, 'curve of 2 branches over 3', 2, True, True]
>>> Curve((LINE, LINE))
raises InvalidCurve
"""
SIX = (LINE, SIDE, BOW, CUSP, HOOK, FOUR)
LONG = tuple(Branch(3, word) for word in ((0,) * 59 + (1,), (0,) * 59 + (2,), (0,) * 58 + (-1, 1), (-1,) * 59 + (1,)))
# No one to six different branches over one prime.
NO_BRANCH_TUPLES = (None, True, 0, "", [], [LINE], {}, {0: LINE}, LINE, (), (None,), (LINE, None), (LINE, LINE), ((),),
                    ((LINE,),), (LINE, CUSP, LINE), (LINE, WILD), (LINE, Branch(2, ())), (LINE, (0, -1, 1)), (Row(3, ()),),
                    ("0 t 1",), SIX + (TALL,), (LINE,) * 7, Curve((LINE,)), (Curve((LINE,)),), (LINE, True))
NO_CURVES = (None, True, 0, 1, "", "curve", (), (LINE,), (LINE, CUSP), [LINE], {}, {0: LINE}, LINE, Row(3, ()), InvalidCurve("x"))


def some_curves(prime, many, most=4):
    """Curves of one to six branches, the same at each run."""
    branches = small_branches(prime, most)
    made = numbers_made(prime + many, many * 6, len(branches))
    found = []
    for at in range(many):
        words = sorted({branches[place].word for place in made[at * 6:at * 6 + at % 6 + 1]})
        found.append(Curve(tuple(Branch(prime, word) for word in words)))
    return found


class CurveTest(PlainTest):

    def test_examples(self):
        self.examples(EXAMPLES, vars(curves))

    def test_constant(self):
        self.same(curves.MAX_BRANCHES, 6)

    def test_refuses(self):
        self.refused(InvalidCurve, Curve, ((LINE,),), 0, NO_BRANCH_TUPLES)

    def test_sequence_does_not_matter(self):
        for few in (SIX[:3], SIX[2:5], (CUSP, LONG[0], LONG[3]), (LINE,)):
            ascending = tuple(sorted(few, key=lambda branch: branch.word))
            for branches in permutations(few):
                curve = Curve(branches)
                self.assertEqual(curve.branches, ascending)
                self.same([branch.word for branch in curve], [branch.word for branch in ascending])
                self.assertEqual(curve, Curve(ascending))
                self.assertIsInstance(curve.branches, tuple)
        self.same([branch.word for branch in Curve(SIX)],
                  [(), (-1,), (0, -1, 1), (0, -1, 1, -1, 1), (0, -1, 2), (1, 1)])

    def test_one_and_six_branches(self):
        for prime in FEW_PRIMES:
            one = Curve((Branch(prime, (0, -1, 1)),))
            self.same([one.prime, len(one), one.lacked, one.milnor, one.touch_table(), one.parting_height(), str(one)],
                      [prime, 1, 1, 2, ((None,),), 0, f"curve of 1 branches over {prime}"])
            six = Curve(tuple(Branch(prime, (0,) * at + (1,)) for at in range(6)))
            self.same([len(six), str(six), six.parting_height()], [6, f"curve of 6 branches over {prime}", 5])
            self.same(six.lacked, sum(at + 1 for at in range(6) for _ in range(at + 1, 6)))
            self.same(six.milnor, 2 * six.lacked - 5)

    def test_lacked(self):
        # [10.1]: by the counts at all points, by branches and touches, and by ranks.
        for curve in some_curves(2, 30) + some_curves(3, 30, 3) + some_curves(31, 6, 1) + [Curve(SIX)]:
            branches = curve.branches
            alone = sum(count * (count - 1) // 2 for branch in branches for count in counts_of(branch, 60))
            pairs = [touch(one, other) for at, one in enumerate(branches) for other in branches[:at]]
            self.same(curve.lacked, alone + sum(pairs))
            counts = [curve.count_on(point) for point in curve.points_to(8)]
            self.same(curve.lacked, sum(count * (count - 1) // 2 for count in counts))
            self.same(curve.milnor, 2 * curve.lacked - len(branches) + 1)
            if curve.lacked <= 60:
                self.same(lacked_by_rank(branches), curve.lacked)

    def test_counts(self):
        for curve in some_curves(3, 12, 3) + some_curves(2, 12):
            points = curve.points_to(6)
            for point in points + ((1, 1, -1, 0), (-1, 0, 0), (0,) * 60):
                self.same(curve.count_on(point), sum(count_at_point(branch, point) for branch in curve.branches))
            # [10.2]
            for point in curve.points_to(4):
                near = [curve.count_on(other) for other in curve.points_to(12) if near_by_definition(other, point)]
                self.same(curve.count_on(point), sum(near))

    def test_points(self):
        for curve in some_curves(2, 12) + [Curve(LONG)]:
            for height in (0, 1, 2, 5, 60):
                wanted = {branch.point_at(at) for branch in curve.branches for at in range(height + 1)}
                self.same(curve.points_to(height), tuple(sorted(wanted)))
        self.same(len(Curve(LONG).points_to(60)), 1 + 59 + 2 + 2 + 60)

    def test_touch_tables(self):
        for curve in some_curves(2, 18) + [Curve(SIX), Curve(LONG)]:
            wanted = tuple(tuple(touch(one, other) for other in curve.branches) for one in curve.branches)
            self.same(curve.touch_table(), wanted)

    def test_parting_heights(self):
        for curve in some_curves(2, 24) + some_curves(5, 12, 2) + [Curve(SIX), Curve(LONG), Curve(LONG[:2])]:
            height = curve.parting_height()
            self.same(len({branch.point_at(height) for branch in curve.branches}), len(curve))
            if height > 0:
                self.assertLess(len({branch.point_at(height - 1) for branch in curve.branches}), len(curve))
        self.same([Curve(LONG[:2]).parting_height(), Curve(LONG).parting_height()], [60, 60])

    def test_more_and_less(self):
        for curve in some_curves(3, 18, 3):
            for branch in (LINE, CUSP, BOW, FOUR, DEEP):
                if branch in curve.branches:
                    self.raised(InvalidOperation, curve.with_branch, branch)
                elif len(curve) == 6:
                    self.raised(TooMany(6), curve.with_branch, branch)
                    self.raised(InvalidOperation, curve.without_branch, branch)
                else:
                    more = curve.with_branch(branch)
                    self.same(len(more), len(curve) + 1)
                    self.assertEqual(more, Curve(curve.branches + (branch,)))
                    self.assertEqual(more.without_branch(branch), curve)
                    # [10.2]
                    touches = sum(touch(branch, other) for other in curve.branches)
                    self.same(more.lacked, curve.lacked + Curve((branch,)).lacked + touches)
        for branch in SIX:
            self.same(Curve(SIX).without_branch(branch).with_branch(branch) == Curve(SIX), True)

    def test_more_and_less_refuse(self):
        six, one = Curve(SIX), Curve((LINE,))
        for curve in (six, one):
            for call in (curve.with_branch, curve.without_branch):
                self.refused(InvalidWord, call, (CUSP,), 0, NO_BRANCHES)
                self.raised(InvalidOperation, call, WILD)
                self.raised(InvalidOperation, call, Branch(2, ()))
        self.raised(InvalidOperation, six.with_branch, LINE)
        self.raised(TooMany(6), six.with_branch, TALL)
        self.raised(InvalidOperation, one.without_branch, LINE)
        self.raised(InvalidOperation, one.without_branch, CUSP)
        self.raised(InvalidOperation, six.without_branch, TALL)
        self.same([len(six), len(one)], [6, 1])

    def test_methods_refuse(self):
        curve = Curve((CUSP, LINE))
        self.refused(InvalidPoint, curve.count_on, ((),), 0, NO_POINTS)
        self.raised(InvalidPoint, Curve((WILD,)).count_on, (2,))
        self.refused(InvalidCount, curve.points_to, (0,), 0, NO_INTEGERS + (-1, 61, SIXTY, -SIXTY))

    def test_members_and_equality(self):
        curve = Curve((CUSP, LINE))
        self.judges(lambda value: value in curve, (), (CUSP, LINE, Branch(3, (0, -1, 1))),
                    (HOOK, SIDE, WILD, Branch(2, ()), None, True, 0, "", (), (0, -1, 1), [CUSP], (CUSP,), {}, curve))
        found = [Curve((CUSP,)), Curve((CUSP, LINE)), Curve((LINE,)), Curve((WILD,)), Curve((Branch(2, ()),)), Curve(SIX)]
        for at, one in enumerate(found):
            for other_at, other in enumerate(found):
                self.assertIs(one == other, at == other_at)
                self.assertIs(one != other, at != other_at)
            for value in NO_CURVES:
                self.assertIs(one == value, False)
                self.assertIs(one != value, True)
        self.assertIs(Curve((CUSP, LINE)) == Curve((LINE, CUSP)), True)

    def test_never_changes(self):
        curve = Curve(SIX)
        for name in ("prime", "branches", "lacked", "milnor"):
            with self.assertRaises(AttributeError):
                setattr(curve, name, 1)
        before = [branch.word for branch in curve]
        curve.without_branch(CUSP), curve.points_to(9), curve.touch_table(), curve.parting_height()
        self.same([branch.word for branch in curve], before)
