"""[0.9], [0.13] to [0.15], [5.1] to [5.6], and touchtowers.tower.points."""

from itertools import product

from touchtowers.errors import InvalidCount, InvalidPoint, InvalidPrime, InvalidWord
from touchtowers.tower import points
from touchtowers.tower.points import (corners_of, count_at, count_at_point, count_sums, counts_of, is_corner, is_near,
                                      orders_at, points_below, points_near, reduced_counts, tower_height)
from touchtowers.word.ways import exchanged, way_of
from touchtowers.word.words import Branch
from tests.helpers import (BOW, CUSP, DEEP, FEW_PRIMES, FOUR, HOOK, LINE, NO_INTEGERS, SIDE, SIXTY, STEEP, TALL, WILD,
                           PlainTest, small_branches)
from tests.test_ways import NO_BRANCHES
from tests.test_words import LONGEST, NO_POINTS

EXAMPLES = """
>>> [points_near(3, (0, -1, 0)), points_near(3, (0, -1, 1)), points_near(3, (-1, -1)), points_near(3, (-1, 0)), points_near(3, ())]
[((0, -1), ()), ((0, -1),), ((-1,), ()), ((-1,),), ()]
>>> [is_near(3, (1, -1, 0, 0), ()), is_near(3, (1, -1, 0, 2), ()), is_near(3, (), ()), is_corner(3, (1, -1)), is_corner(3, (-1,))]
[True, False, False, True, False]
>>> [orders_at(CUSP, 0), orders_at(CUSP, 1), orders_at(CUSP, 2), orders_at(CUSP, 3), orders_at(SIDE, 0), orders_at(FOUR, 2), counts_of(FOUR, 5), counts_of(DEEP, 7)]
[(2, 3), (2, 1), (1, 1), (1, None), (None, 1), (2, 2), (4, 2, 2, 1, 1, 1), (6, 2, 2, 2, 2, 1, 1, 1)]
>>> [reduced_counts(FOUR), reduced_counts(BOW), count_sums(FOUR, 5), corners_of(FOUR), corners_of(DEEP), tower_height(CUSP), tower_height(FOUR), tower_height(LINE)]
[(4, 2, 2, 1), (1,), (0, 4, 6, 8, 9), (2, 4), (2, 3, 6), 3, 5, 0]
>>> [count_at_point(TALL, (0, 0, -1)), count_at_point(TALL, (0, 1)), points_below(3, ((0, -1), (1,)))]
[1, 0, ((), (0,), (0, -1), (1,))]
"""
NAMED = (LINE, SIDE, BOW, CUSP, HOOK, FOUR, TALL, STEEP, DEEP, WILD)


def all_points(prime, most):
    return [point for length in range(most + 1) for point in product(range(-1, prime), repeat=length)]


def near_by_definition(one, other):
    """[0.13], from the lower point on."""
    more = one[len(other):]
    if one[:len(other)] != other or not more:
        return False
    return len(more) == 1 or (more[1] == -1 and not any(more[2:]))


def long_branches(prime):
    return [Branch(prime, word) for word in (LONGEST[:-2] + (1, 1), (-1,) * 59 + (1,), (0,) * 59 + (1,),
                                             (1,) * 60, (0, -1, 0, 0) * 14 + (1,), (1, -1, 1) * 20, (-1,) + (0,) * 58 + (1,))]


def branches_to_try():
    found = list(NAMED)
    for prime, most in ((2, 6), (3, 4), (5, 3), (7, 2), (31, 1)):
        found.extend(small_branches(prime, most))
    return found + long_branches(2) + long_branches(31)


class NearTest(PlainTest):

    def test_examples(self):
        self.examples(EXAMPLES, vars(points))

    def test_constant(self):
        self.same(points.MAX_HEIGHT, 200)

    def test_near(self):
        for prime, most in ((2, 4), (3, 3), (5, 2)):
            found = all_points(prime, most)
            for one in found:
                near = [other for other in found if near_by_definition(one, other)]
                near = tuple(sorted(near, key=len, reverse=True))
                self.assertLessEqual(len(near), 2)
                self.same(points_near(prime, one), near)
                self.assertIs(is_corner(prime, one), len(near) == 2)
                for other in found:
                    self.assertIs(is_near(prime, one, other), other in near)

    def test_long_points(self):
        top = (1, -1) + (0,) * 58
        self.same(points_near(2, top), (top[:59], ()))
        self.same(points_near(2, (0,) * 60), ((0,) * 59,))
        self.same(points_near(31, (30,) * 58 + (-1, -1)), ((30,) * 58 + (-1,), (30,) * 58))
        self.same(points_near(3, (-1,) + (0,) * 59), ((-1,) + (0,) * 58,))
        self.assertIs(is_corner(2, top), True)
        self.assertIs(is_near(2, top, ()), True)
        self.assertIs(is_near(2, (), top), False)

    def test_refuse(self):
        for call in (points_near, is_corner):
            self.refuses_primes(call, ())
            self.refuses_primes(call, None)
            self.refused(InvalidPoint, call, (3, ()), 1, NO_POINTS)
        self.refuses_primes(is_near, (), ())
        self.refuses_primes(is_near, None, None)
        for place in (1, 2):
            self.refused(InvalidPoint, is_near, (3, (), ()), place, NO_POINTS)
        self.raised(InvalidPoint, is_near, 2, (2,), None)
        self.raised(InvalidPrime, is_near, 4, (2,), None)

    def test_points_below(self):
        for prime in (2, 3):
            found = all_points(prime, 3)
            for some in ((), ((),), ((1, 0, -1),), tuple(found[::5]), tuple(found[::-7]), ((1,), (1,), (1, 1))):
                wanted = sorted({point[:at] for point in some for at in range(len(point) + 1)})
                self.same(points_below(prime, some), tuple(wanted))
        self.same(points_below(3, ()), ())
        self.same(points_below(3, ((1,), (-1,), (0,))), ((), (-1,), (0,), (1,)))
        self.same(len(points_below(2, ((0,) * 60, (-1,) * 60))), 121)
        self.refuses_primes(points_below, ())
        self.refuses_primes(points_below, None)
        wrong = (None, True, 0, "", ".", [], [()], {}, {(): 1}, CUSP, (0,), (0, 1), ([],), ([0],), (None,), ("0",),
                 ((3,),), ((-2,),), ((True,),), ((), (False,)), ((0,) * 61,), ((), None), ((((),),),))
        self.refused(InvalidPoint, points_below, (3, ()), 1, wrong)
        self.raised(InvalidPoint, points_below, 2, ((0,), (2,)))


class CountsTest(PlainTest):

    def test_orders_are_those_of_ways(self):
        for prime, most in ((2, 5), (3, 4), (5, 3), (31, 1)):
            for branch in small_branches(prime, most) + list(NAMED):
                for height in range(len(branch) + 2):
                    # Blowing up along the word leads to the way of the letters that are left.
                    x, y = way_of(Branch(branch.prime, branch.word[height:]))
                    self.same(orders_at(branch, height), (x.order, y.order))

    def test_orders_behind_the_word(self):
        for branch in branches_to_try():
            self.same(orders_at(branch, len(branch)), (1, None))
            self.same(orders_at(branch, 200), (1, None))
            if branch.letter_at(0) <= 0:
                self.same(orders_at(exchanged(branch), 0), orders_at(branch, 0)[::-1])

    def test_counts(self):
        for branch in branches_to_try():
            counts = counts_of(branch, 200)
            self.same(len(counts), 201)
            for height in (0, 1, 2, 3, 59, 60, 61, 199, 200):
                self.same(counts_of(branch, height), counts[:height + 1])
                self.same(count_at(branch, height), counts[height])
                least = min(order for order in orders_at(branch, height) if order is not None)
                self.same(counts[height], least)
            # [0.14]
            self.assertEqual(list(counts), sorted(counts, reverse=True))
            self.assertEqual(set(counts[len(branch):]), {1})
            self.assertIs(branch.is_smooth, counts[0] == 1)

    def test_counts_are_sums_of_near_ones(self):
        # [0.14] and [5.4]
        for branch in branches_to_try():
            counts = counts_of(branch, 60)
            at = [branch.point_at(height) for height in range(61)]
            for height in range(len(branch) + 1):
                if len(branch) == 60 and height == 60:
                    continue
                near = [top for top in range(61) if near_by_definition(at[top], at[height])]
                self.same(near, list(range(height + 1, height + 1 + len(near))))
                if near[-1] < 60:
                    self.same(counts[height], sum(counts[top] for top in near))
                    self.assertEqual({counts[top] for top in near[:-1]} - {counts[near[0]]}, set())
                    self.assertLessEqual(counts[near[-1]], counts[near[0]])

    def test_long_counts(self):
        # Each turn adds both orders: the counts are numbers of Fibonacci.
        numbers = [1, 1]
        while len(numbers) < 70:
            numbers.append(numbers[-1] + numbers[-2])
        branch = Branch(2, (-1,) * 59 + (1,))
        self.same(counts_of(branch, 59), tuple(numbers[59::-1]))
        self.same(orders_at(branch, 0), (numbers[60], numbers[59]))

    def test_counts_at_points(self):
        found = all_points(3, 4)
        for branch in small_branches(3, 3) + [FOUR, DEEP, TALL]:
            for point in found:
                wanted = count_at(branch, len(point)) if branch.goes_through(point) else 0
                self.same(count_at_point(branch, point), wanted)
        self.same(count_at_point(Branch(3, (0,) * 59 + (1,)), (0,) * 60), 0)
        self.same(count_at_point(Branch(3, (0,) * 59 + (1,)), (0,) * 59 + (1,)), 1)
        self.same(count_at_point(LINE, (0,) * 60), 1)

    def test_reduced_counts_and_sums(self):
        for branch in branches_to_try():
            counts = counts_of(branch, 200)
            reduced = reduced_counts(branch)
            self.same(reduced[-1], 1)
            self.assertNotIn(1, reduced[:-1])
            self.same(reduced + (1,) * (201 - len(reduced)), counts)
            for many in (1, 2, 3, 60, 61, 199, 200):
                self.same(count_sums(branch, many), tuple(sum(counts[:at]) for at in range(many)))

    def test_corners_and_tower_heights(self):
        for branch in branches_to_try():
            corners = [height for height in range(61) if is_corner(branch.prime, branch.point_at(height))]
            self.same(corners_of(branch), tuple(corners))
            counts = counts_of(branch, 60)
            plain = [height for height in range(61) if counts[height] == 1 and height not in corners]
            height = tower_height(branch)
            self.assertTrue(all(at in plain for at in range(height, 61)))
            self.assertTrue(height == 0 or height - 1 not in plain)
            # [5.5]
            self.assertIs(branch.is_smooth, corners == [])
            self.assertIs(branch.is_smooth, height == 0)

    def test_lacks(self):
        # [0.15] and [7.5]: FOUR lacks the eight gaps of its orders, DEEP nineteen.
        for branch, lacked in ((LINE, 0), (CUSP, 1), (TALL, 6), (FOUR, 8), (DEEP, 19)):
            self.same(sum(count * (count - 1) // 2 for count in counts_of(branch, 60)), lacked)

    def test_not_true(self):
        # [5.6]: a count 1 below a corner; equal corners of unlike branches; counts that differ by no factor.
        self.same((count_at(CUSP, 1), corners_of(CUSP)), (1, (2,)))
        self.same(corners_of(CUSP), corners_of(HOOK))
        self.same((counts_of(TALL, 3), corners_of(TALL)), ((3, 3, 1, 1), (3, 4)))


class CountsRefuseTest(PlainTest):

    def test_branches(self):
        calls = (lambda branch: orders_at(branch, 0), lambda branch: orders_at(branch, -1),
                 lambda branch: count_at(branch, 0), lambda branch: count_at(branch, True),
                 lambda branch: counts_of(branch, 0), lambda branch: counts_of(branch, None),
                 lambda branch: count_at_point(branch, ()), lambda branch: count_at_point(branch, None),
                 lambda branch: count_sums(branch, 1), lambda branch: count_sums(branch, 0),
                 reduced_counts, corners_of, tower_height)
        for call in calls:
            self.refused(InvalidWord, call, (CUSP,), 0, NO_BRANCHES)

    def test_heights(self):
        for branch in (CUSP, LINE):
            for call in (orders_at, count_at, counts_of):
                self.refused(InvalidCount, call, (branch, 0), 1, NO_INTEGERS + (-1, 201, SIXTY, -SIXTY))
            self.refused(InvalidCount, count_sums, (branch, 1), 1, NO_INTEGERS + (0, -1, 201, SIXTY, -SIXTY))

    def test_points(self):
        self.refused(InvalidPoint, count_at_point, (HOOK, ()), 1, NO_POINTS)
        self.raised(InvalidPoint, count_at_point, WILD, (2,))
