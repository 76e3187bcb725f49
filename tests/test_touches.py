"""[0.15], [0.16], [6.1] to [6.6], and touchtowers.tower.touches."""

from math import gcd

from touchtowers.base.rows import Row
from touchtowers.errors import InvalidCurve, InvalidOperation, InvalidRow, InvalidWord
from touchtowers.number.orders import generators_of, is_order
from touchtowers.tower import touches as module
from touchtowers.tower.points import count_at, count_at_point, counts_of
from touchtowers.tower.touches import (contact, smooth_branch, smooth_touch, smooth_touches, touch, touch_points,
                                       touches)
from touchtowers.word.ways import Plane, order_on, way_degree, way_of
from touchtowers.word.words import Branch, shared_height
from tests.helpers import (BOW, CUSP, DEEP, FEW_PRIMES, FOUR, HOOK, LINE, SIDE, STEEP, TALL, WILD, PlainTest,
                           small_branches)
from tests.test_rows import some_rows
from tests.test_ways import NO_BRANCHES, NO_ROWS

EXAMPLES = """
>>> [touch(CUSP, other) for other in (LINE, SIDE, BOW, HOOK, FOUR, TALL, STEEP, DEEP)], touch(CUSP, CUSP)
([3, 2, 2, 6, 13, 9, 4, 12], None)
>>> touch_points(CUSP, HOOK), touch_points(LINE, SIDE)
((((), 2, 2), ((0,), 1, 1), ((0, -1), 1, 1)), (((), 1, 1),))
>>> [contact(CUSP, FOUR), contact(CUSP, HOOK), contact(HOOK, FOUR), contact(LINE, TALL), contact(BOW, BOW)]
[(13, 8), (3, 2), (3, 2), (7, 3), None]
>>> [smooth_touches(CUSP), smooth_touches(FOUR), smooth_touches(TALL), smooth_touches(DEEP)]
[(2, 3), (4, 6), (3, 6, 7), (6, 8)]
>>> [smooth_touch(TALL, Row.read(3, "0")), smooth_touch(TALL, Row.read(3, "t^2")), smooth_touch(TALL, Row.read(3, "2t")), smooth_branch(Row.read(3, "t+t^2")) == BOW]
[7, 6, 3, True]
>>> touches((LINE, CUSP, LINE))
((None, 3, None), (3, None, 3), (None, 3, None))
>>> touch_points(BOW, BOW)
raises InvalidOperation
"""
NAMED = (LINE, SIDE, BOW, CUSP, HOOK, FOUR, TALL, STEEP, DEEP)
# Branches that share all letters of the shorter word, and long ones.
FAMILY = [Branch(3, word) for word in ((), (-1,), (0, -1, 1), (0, -1, 1, -1, 1), (0, -1, 1, 0, 2), (0, -1, 1, 1),
                                       (0, -1, 1) + (0,) * 56 + (2,), (0,) * 59 + (1,), (0,) * 59 + (2,),
                                       (-1,) * 59 + (1,), (-1,) * 59 + (2,), (1, -1, 1) * 20)]
# Not one to six branches.
NO_TUPLES = (None, True, 0, "", [], [LINE], {}, {0: LINE}, LINE, (), (None,), (LINE, None), (LINE, (0, -1, 1)), ((),),
             ((LINE,),), (LINE, [CUSP]), ("0 t 1",), (Row(3, ()),), (LINE,) * 7, (LINE, SIDE, BOW, CUSP, HOOK, FOUR, TALL))


def naive_touch(one, other):
    """[0.15], over the points of one of both."""
    points = [one.point_at(height) for height in range(max(len(one), len(other)))]
    return sum(count_at_point(one, point) * count_at_point(other, point) for point in points)


class TouchTest(PlainTest):

    def test_examples(self):
        self.examples(EXAMPLES, dict(vars(module), Row=Row))

    def test_touches_by_points(self):
        for found in (small_branches(2, 5), small_branches(3, 3) + FAMILY, small_branches(5, 2), small_branches(31, 1)):
            found = found[::1 + len(found) // 40]
            for one in found:
                for other in found:
                    if one == other:
                        self.same([touch(one, other), contact(one, other)], [None, None])
                        continue
                    times = touch(one, other)
                    self.same(times, naive_touch(one, other))
                    self.same(times, touch(other, one))
                    told = touch_points(one, other)
                    self.same([point for point, _, _ in told],
                              [one.point_at(height) for height in range(shared_height(one, other))])
                    self.same([told[-1], len(told)], [(told[-1][0], count_at_point(one, told[-1][0]),
                                                       count_at_point(other, told[-1][0])), shared_height(one, other)])
                    self.same(sum(count * factor for _, count, factor in told), times)
                    # [6.2]
                    least = count_at(one, 0) * count_at(other, 0)
                    self.assertIs(times == least, one.letter_at(0) != other.letter_at(0))
                    self.assertGreaterEqual(times, least)
                    top, bottom = contact(one, other)
                    self.same(gcd(top, bottom), 1)
                    self.same(top * least, times * bottom)

    def test_shared_letters(self):
        for prime in FEW_PRIMES:
            short, long = Branch(prime, (0, -1, 1)), Branch(prime, (0, -1, 1) + (0,) * 56 + (1,))
            # Behind its last letter the shorter word goes on with letters 0.
            self.same([touch(short, long), shared_height(short, long)], [4 + 59, 60])
            self.same(len(touch_points(short, long)), 60)
            line, far = Branch(prime, ()), Branch(prime, (0,) * 59 + (1,))
            self.same([touch(line, far), contact(line, far)], [60, (60, 1)])
        self.same(touch(Branch(2, (0, -1, 1)), Branch(2, (0, -1, 1, 1))), 7)

    def test_long_touches(self):
        # All letters but the last one are shared, and the counts are numbers of Fibonacci.
        one, other = FAMILY[-3], FAMILY[-2]
        counts = counts_of(one, 59)
        self.same(touch(one, other), sum(count * count for count in counts))
        self.same(touch(one, other), counts[0] * (counts[0] + counts[1]))

    def test_touches_are_orders(self):
        # [6.2]
        for found in (small_branches(2, 4), small_branches(3, 3)[::5] + FAMILY):
            for one in found:
                generators = generators_of(one)
                for other in found:
                    if one != other:
                        self.assertIs(is_order(generators, touch(one, other)), True)

    def test_contacts(self):
        # [6.3]
        for found in (small_branches(2, 4)[::2], small_branches(3, 3)[::9] + FAMILY):
            for one in found:
                for other in found:
                    for third in found:
                        if one == other or one == third or other == third:
                            continue
                        parts = [contact(one, other), contact(one, third), contact(other, third)]
                        scaled = sorted(top * parts[0][1] * parts[1][1] * parts[2][1] // bottom
                                        for top, bottom in parts)
                        self.same(scaled[0], scaled[1])

    def test_rows_of_touches(self):
        six = (LINE, SIDE, BOW, CUSP, HOOK, FOUR)
        found = touches(six)
        for at, one in enumerate(six):
            self.same(found[at], tuple(touch(one, other) for other in six))
        self.same(touches((CUSP,)), ((None,),))
        self.same(touches((CUSP,) * 6), ((None,) * 6,) * 6)
        self.same(touches((FOUR, LINE)), ((None, 6), (6, None)))

    def test_not_true(self):
        # [6.6]
        self.same([touch(SIDE, LINE), touch(BOW, LINE), touch(SIDE, BOW)], [1, 1, 1])
        self.same([touch(FAMILY[7], LINE), touch(LINE, BOW), touch(FAMILY[7], BOW)], [60, 1, 1])
        self.same([counts_of(CUSP, 3) == counts_of(HOOK, 3), touch(CUSP, FOUR), touch(HOOK, FOUR)], [True, 13, 12])
        self.assertLess(touch(LINE, Branch(3, (0, 0, 1))), touch(FOUR, DEEP))


class SmoothTest(PlainTest):

    def test_smooth_branches(self):
        for prime in FEW_PRIMES:
            for row in some_rows(prime, 20, 9):
                if row.entry(0) != 0:
                    self.raised(InvalidOperation, smooth_branch, row)
                    continue
                smooth = smooth_branch(row)
                self.same((smooth.prime, smooth.word), (prime, row.entries[1:]))
                self.same([part.entries for part in way_of(smooth)], [(0, 1), row.entries])
        self.same(smooth_branch(Row(3, (0,) * 60 + (2,))).word, (0,) * 59 + (2,))
        self.raised(InvalidOperation, smooth_branch, Row(3, (0,) * 61 + (2,)))
        self.raised(InvalidOperation, smooth_branch, Row(3, (1,)))
        self.raised(InvalidOperation, smooth_branch, Row(3, (0, 1)).shifted(400).shifted(400).shifted(400))

    def test_orders_of_equations(self):
        # [6.4]: the touch is the order of y - r(x).
        for prime in (2, 3, 5):
            rows = [row.shifted(1) for row in some_rows(prime, 14, 5)]
            for branch in small_branches(prime, 4)[::1 + prime] + small_branches(prime, 1):
                for row in rows:
                    table = {(power, 0): -entry % prime for power, entry in enumerate(row.entries) if entry}
                    equation = Plane(prime, table | {(0, 1): 1})
                    if equation.degree * way_degree(branch) > 900:
                        continue
                    self.same(smooth_touch(branch, row), order_on(equation, branch))
                    self.assertIs(smooth_touch(branch, row) is None, smooth_branch(row) == branch)

    def test_smooth_touches(self):
        # [6.5], by the touches with all smooth branches of small words.
        for prime, most in ((2, 6), (3, 4), (5, 3)):
            smooth = [branch for branch in small_branches(prime, most) if branch.is_smooth]
            for branch in small_branches(prime, most):
                if branch.is_smooth:
                    self.raised(InvalidOperation, smooth_touches, branch)
                else:
                    self.same(smooth_touches(branch), tuple(sorted({touch(branch, one) for one in smooth})))
        self.same(smooth_touches(Branch(2, (1,) * 58 + (-1, 1))), tuple(range(2, 117, 2)) + (117,))
        self.same(smooth_touches(Branch(2, (-1, -1, 1))), (2, 3))
        for prime in FEW_PRIMES:
            for word in ((), (-1,), (1,), (-1, 0, 1), (1,) * 60):
                self.raised(InvalidOperation, smooth_touches, Branch(prime, word))


class TouchRefuseTest(PlainTest):

    def test_pairs(self):
        for call in (touch, touch_points, contact):
            self.refused(InvalidWord, call, (CUSP, LINE), 0, NO_BRANCHES)
            self.refused(InvalidWord, call, (CUSP, LINE), 1, NO_BRANCHES)
            self.refused(InvalidWord, call, (WILD, LINE), 1, NO_BRANCHES)
            self.refused(InvalidWord, call, (CUSP, None), 0, NO_BRANCHES)
            self.raised(InvalidOperation, call, CUSP, WILD)
            self.raised(InvalidOperation, call, WILD, CUSP)
            self.raised(InvalidOperation, call, Branch(2, ()), LINE)
        for branch in NAMED:
            self.raised(InvalidOperation, touch_points, branch, Branch(3, branch.word))

    def test_tuples(self):
        self.refused(InvalidCurve, touches, ((LINE,),), 0, NO_TUPLES)
        self.raised(InvalidCurve, touches, (LINE, WILD, None))
        self.raised(InvalidOperation, touches, (LINE, WILD))
        self.raised(InvalidOperation, touches, (LINE, CUSP, LINE, CUSP, SIDE, Branch(2, ())))

    def test_rows(self):
        self.refused(InvalidRow, smooth_branch, (Row(3, ()),), 0, NO_ROWS)
        self.refused(InvalidRow, smooth_touch, (CUSP, Row(3, ())), 1, NO_ROWS)
        self.refused(InvalidWord, smooth_touch, (CUSP, Row(3, ())), 0, NO_BRANCHES)
        self.refused(InvalidWord, smooth_touch, (CUSP, None), 0, NO_BRANCHES)
        self.raised(InvalidOperation, smooth_touch, CUSP, Row(3, (1,)))
        self.raised(InvalidOperation, smooth_touch, CUSP, Row(3, (0,) * 61 + (1,)))
        self.raised(InvalidOperation, smooth_touch, CUSP, Row(2, (0, 1)))
        self.raised(InvalidOperation, smooth_touch, Branch(3, ()), Row(2, ()))
        self.refused(InvalidWord, smooth_touches, (CUSP,), 0, NO_BRANCHES)
