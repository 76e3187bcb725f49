"""[0.16], [0.17], [8.1] to [8.6], and touchtowers.ring.rings."""

from touchtowers.base.rows import Row
from touchtowers.errors import InvalidCount, InvalidCurve, InvalidOperation, InvalidWord, TooMany
from touchtowers.number.orders import gaps, generators_of, is_order, last_gap, lacked_by_orders, orders_below
from touchtowers.ring import rings
from touchtowers.ring.rings import (closed_orders, conductor_of, is_in_ring, is_plane_with, lacked_by_rank,
                                    orders_by_rank, plane_with, ring_table, touch_by_rank)
from touchtowers.tower.points import count_sums, counts_of
from touchtowers.tower.touches import touch
from touchtowers.word.ways import Plane, order_on, value_on, way_degree
from touchtowers.word.words import Branch
from tests.helpers import (BOW, CUSP, DEEP, FEW_PRIMES, FOUR, HOOK, LINE, NO_INTEGERS, SIDE, SIXTY, STEEP, TALL, WILD,
                           PlainTest, numbers_made, small_branches)
from tests.test_planes import NO_PLANES, some_planes
from tests.test_rows import naive_product
from tests.test_ways import NO_BRANCHES, naive_way

EXAMPLES = """
>>> [ring_table((CUSP,), (4,)), ring_table((LINE, CUSP), (3, 5))]
[((1, 0, 0, 0), (0, 0, 1, 0), (0, 0, 0, 1)), ((1, 0, 0, 1, 0, 0, 0, 0), (0, 1, 0, 0, 0, 1, 0, 0), (0, 0, 1, 0, 0, 0, 0, 1), (0, 0, 0, 0, 0, 0, 1, 0))]
>>> [lacked_by_rank((CUSP,)), lacked_by_rank((LINE, CUSP)), conductor_of((LINE, CUSP)), conductor_of((LINE,)), conductor_of((SIDE, LINE))]
[1, 4, (3, 5), (0,), (1, 1)]
>>> [orders_by_rank(FOUR, 17), touch_by_rank(LINE, CUSP), touch_by_rank(CUSP, HOOK), closed_orders(FOUR, 6)]
[(0, 4, 6, 8, 10, 12, 13, 14, 16), 3, 6, (0, 4, 6, 8, 9, 10)]
>>> [is_in_ring((CUSP,), (Row(3, (0, 0, 1, 1)),)), is_in_ring((CUSP,), (Row(3, (0, 1)),)), is_in_ring((LINE, SIDE), (Row(3, (1, 1)), Row(3, (1, 0, 2)))), is_in_ring((LINE, SIDE), (Row(3, (1,)), Row(3, ())))]
[True, False, True, False]
>>> [is_plane_with(CUSP, 7, plane_with(CUSP, 7)), is_plane_with(CUSP, 7, plane_with(CUSP, 6))]
[True, False]
>>> plane_with(CUSP, 1)
raises InvalidOperation
"""
NAMED = (LINE, SIDE, BOW, CUSP, HOOK, FOUR, TALL, STEEP, DEEP)
# Several branches, in no order.
TUPLES = ((CUSP,), (LINE, CUSP), (CUSP, LINE), (HOOK, CUSP), (SIDE, LINE, BOW), (BOW, CUSP, STEEP), (FOUR, SIDE),
          (TALL, LINE), (CUSP, SIDE, LINE, BOW, Branch(3, (2,)), Branch(3, (1,))), (WILD,), (WILD, Branch(2, (0, 1))),
          (Branch(31, (30, -1, 30)), Branch(31, ()), Branch(31, (30,))), (Branch(5, (4, 3)), Branch(5, (4, 2)), Branch(5, (4,))))
NO_RINGS = (None, True, 0, "", [], [LINE], {}, {0: LINE}, LINE, (), (None,), (LINE, None), (LINE, LINE), ((),), ((LINE,),),
            (LINE, SIDE, LINE), (LINE, WILD), (LINE, Branch(2, ())), (LINE, (0, -1, 1)), (Row(3, ()),), ("0 t 1",),
            (LINE, SIDE, BOW, CUSP, HOOK, FOUR, TALL), (LINE,) * 7)


def naive_echelon(prime, lines):
    """[8.2], entry by entry."""
    lines = [list(line) for line in lines]
    done = []
    for column in range(len(lines[0])):
        at = next((at for at, line in enumerate(lines) if line[column]), None)
        if at is None:
            continue
        first = lines.pop(at)
        inverse = next(number for number in range(1, prime) if number * first[column] % prime == 1)
        first = [entry * inverse % prime for entry in first]
        lines = [[(entry - line[column] * other) % prime for entry, other in zip(line, first)] for line in lines]
        done = [[(entry - line[column] * other) % prime for entry, other in zip(line, first)] for line in done] + [first]
    return tuple(tuple(line) for line in done)


def naive_table(branches, sizes):
    """The mixes of all products of x and y that are not zero below the sizes."""
    prime = branches[0].prime
    most = max(sizes)

    def cut(entries):
        return tuple(entries[:most]) + (0,) * (most - len(entries))

    ways = [[cut(part) for part in naive_way(branch)] for branch in branches]
    lines = []
    row = [cut((1,))] * len(branches)
    for _ in range(most):
        line = row
        for _ in range(most):
            lines.append([entry for part, size in zip(line, sizes) for entry in part[:size]])
            line = [cut(naive_product(prime, part, y)) for part, (_, y) in zip(line, ways)]
        row = [cut(naive_product(prime, part, x)) for part, (x, _) in zip(row, ways)]
    return naive_echelon(prime, lines)


def lacked(branches):
    """[8.3]: by counts and touches."""
    alone = sum(count * (count - 1) // 2 for branch in branches for count in counts_of(branch, 60))
    return alone + sum(touch(one, other) for at, one in enumerate(branches) for other in branches[:at])


class RingTest(PlainTest):

    def test_examples(self):
        self.examples(EXAMPLES, dict(vars(rings), Row=Row))

    def test_constants(self):
        self.same([rings.MAX_LACKED, rings.MAX_SIZE], [60, 130])

    def test_tables(self):
        for branches in TUPLES:
            made = numbers_made(len(branches), 24, 9)
            for at in range(3):
                sizes = tuple(entry + 1 for entry in made[at * 6:at * 6 + len(branches)])
                self.same(ring_table(branches, sizes), naive_table(branches, sizes))
            self.same(ring_table(branches, (1,) * len(branches)), ((1,) * len(branches),))

    def test_tables_of_single_branches(self):
        for prime, most in ((2, 4), (3, 3)):
            for branch in small_branches(prime, most)[::1 + prime]:
                for size in (1, 2, 7, 13):
                    self.same(ring_table((branch,), (size,)), naive_table((branch,), (size,)))
        self.same(ring_table((LINE,), (3,)), ((1, 0, 0), (0, 1, 0), (0, 0, 1)))

    def test_great_tables(self):
        branches = TUPLES[8]
        found = ring_table(branches, (130,) * 6)
        self.same([len(found), len(found[0])], [780 - lacked(branches), 780])
        # Behind the conductor each column has a line of its own.
        for line in found[-100:]:
            self.same(sum(line), 1)
        self.same(len(ring_table((FOUR, LINE), (130, 1))), len(naive_table((FOUR, LINE), (17, 1))) + 113)

    def test_lacked(self):
        # [8.3]
        for branches in TUPLES:
            self.same(lacked_by_rank(branches), lacked(branches))
            least = conductor_of(branches)
            self.same(sum(least), 2 * lacked(branches))
            for more in (0, 1, 4):
                sizes = tuple(max(1, size + more) for size in least)
                self.same(sum(sizes) - len(ring_table(branches, sizes)), lacked(branches))
        for prime, most in ((2, 5), (3, 4)):
            for branch in small_branches(prime, most)[::1 + prime]:
                if lacked((branch,)) <= 60:
                    self.same(lacked_by_rank((branch,)), lacked_by_orders(generators_of(branch)))
                    self.same(conductor_of((branch,)), (last_gap(generators_of(branch)) + 1,))

    def test_conductors(self):
        # Each tuple of series of at least these orders is an element, and none of the integers can be less.
        for branches in TUPLES:
            least = conductor_of(branches)
            sizes = tuple(size + 2 for size in least)
            table = naive_table(branches, sizes)
            self.same(ring_table(branches, sizes), table)
            zero = [Row(branches[0].prime, ())] * len(branches)
            for at, size in enumerate(least):
                for power in range(max(0, size - 1), size + 2):
                    unit = [0] * sum(sizes)
                    unit[sum(sizes[:at]) + power] = 1
                    wanted = power >= size
                    self.assertIs(tuple(unit) in table, wanted)
                    row = Row(branches[0].prime, (0,) * power + (1,))
                    self.assertIs(is_in_ring(branches, tuple(zero[:at] + [row] + zero[at + 1:])), wanted)

    def test_elements(self):
        # [8.1]: what comes from polynomials, their sums and products.
        for branches in TUPLES:
            prime = branches[0].prime
            found = [tuple(value_on(plane, branch) for branch in branches) for plane in some_planes(prime, 9)]
            for one in found:
                self.assertIs(is_in_ring(branches, one), True)
                for other in found[:3]:
                    self.assertIs(is_in_ring(branches, tuple(a.times(b) for a, b in zip(one, other))), True)
                    self.assertIs(is_in_ring(branches, tuple(a.plus(b) for a, b in zip(one, other))), True)
            # An element is one exactly if its cut row is a mix of the table.
            sizes = tuple(max(1, size) for size in conductor_of(branches))
            table = ring_table(branches, sizes)
            made = numbers_made(prime, 10 * sum(sizes), prime)
            for at in range(10):
                line = made[at * sum(sizes):(at + 1) * sum(sizes)]
                rows, rest = [], list(line)
                for size in sizes:
                    part, rest = rest[:size], rest[size:]
                    while part and part[-1] == 0:
                        part.pop()
                    rows.append(Row(prime, tuple(part)))
                wanted = len(naive_echelon(prime, table + (tuple(line),))) == len(table)
                self.assertIs(is_in_ring(branches, tuple(rows)), wanted)

    def test_values_that_are_no_elements(self):
        one, t = Row(3, (1,)), Row(3, (0, 1))
        for value in (None, True, 0, "", (), (one,), (one, one, one), [one, one], {0: one, 1: one}, (one, None),
                      (one, (1,)), ((1,), (1,)), (one, "1"), (1, 1), (one, Row(2, (1,))), (Row(2, (1,)), Row(2, (1,))),
                      (one, LINE), LINE, one, (one, t), (t, one), ((one, one),), (one, Row(3, (2,)))):
            self.assertIs(is_in_ring((LINE, SIDE), value), False)
        self.assertIs(is_in_ring((LINE, SIDE), (one, one)), True)
        self.assertIs(is_in_ring((LINE,), (Row(2, ()),)), False)
        long = Row(3, (0,) * 999 + (1,)).shifted(400)
        self.assertIs(is_in_ring((CUSP,), (long,)), True)
        self.assertIs(is_in_ring((CUSP,), (long.plus(t),)), False)
        self.assertIs(is_in_ring((LINE,), (long.plus(t),)), True)


class RankTest(PlainTest):

    def test_orders(self):
        # [8.4]
        for branch in [branch for branch in small_branches(2, 5)[::3] + list(NAMED) if lacked((branch,)) <= 60]:
            generators = generators_of(branch)
            for most in (1, 2, 17, 130):
                self.same(orders_by_rank(branch, most), orders_below(generators, most))
            found = orders_by_rank(branch, 130)
            self.same(tuple(number for number in range(122) if number not in found), gaps(generators))

    def test_touches(self):
        # [0.16]
        for found in (NAMED, small_branches(2, 3), [Branch(7, word) for word in ((), (-1,), (6, 5), (6, -1, 6), (6, -1, 5))]):
            for one in found:
                for other in found:
                    if one == other:
                        self.raised(InvalidOperation, touch_by_rank, one, other)
                    elif lacked((one, other)) <= 60:
                        self.same(touch_by_rank(one, other), touch(one, other))
                    else:
                        self.raised(TooMany(60), touch_by_rank, one, other)

    def test_planes(self):
        for branch in NAMED + (WILD, Branch(31, (7, -1, 30, 3)), Branch(2, (1, -1, -1, 0, 1)), Branch(2, (1,) * 60),
                               Branch(5, (4,) * 58 + (-1, 3)), Branch(3, (-1, 2, -1, 0, 0, 2, 1, 1)), Branch(2, (-1, 0, -1, 1, 1))):
            generators = generators_of(branch)
            for order in list(range(0, 24)) + [60, 117, 130]:
                if not is_order(generators, order):
                    self.raised(InvalidOperation, plane_with, branch, order)
                    continue
                plane = plane_with(branch, order)
                self.assertIs(is_plane_with(branch, order, plane), True)
                if plane.degree * way_degree(branch) <= 900:
                    self.same(order_on(plane, branch), order)
                for other in (order - 1, order + 1):
                    if 0 <= other <= 130:
                        self.assertIs(is_plane_with(branch, other, plane), False)

    def test_judged_planes(self):
        for branch in NAMED:
            for plane in some_planes(3, 20):
                order = order_on(plane, branch) if plane.degree * way_degree(branch) <= 900 else None
                for wanted in (0, 1, 2, 3, 4, 6, 12, 13):
                    if order is not None or len(plane) == 0:
                        self.assertIs(is_plane_with(branch, wanted, plane), order == wanted)
        for value in NO_PLANES + (Plane(2, {(0, 0): 1}), Plane(3, {}), LINE, Row(3, (1,))):
            self.assertIs(is_plane_with(CUSP, 0, value), False)
        # The equation of the branch becomes zero.
        equation = Plane(3, {(0, 2): 1, (3, 0): 2})
        for order in (0, 6, 130):
            self.assertIs(is_plane_with(CUSP, order, equation), False)
        high = Plane(3, {(200, 200): 1, (0, 65): 2, (1, 0): 1})
        self.same([is_plane_with(SIDE, 65, high), is_plane_with(LINE, 1, high)], [True, True])
        # Nothing is said of what the branch lacks, or of the degree of its way.
        great = Branch(3, (-1,) * 59 + (1,))
        self.assertIs(is_plane_with(great, 0, Plane(3, {(0, 0): 2, (1, 1): 1})), True)
        self.assertIs(is_plane_with(great, 130, Plane(3, {(1, 1): 1})), False)
        wide = Branch(3, (0,) * 58 + (-1, 1))
        self.assertIs(is_plane_with(wide, 117, Plane(3, {(0, 1): 1, (60, 0): 1})), True)

    def test_closed_orders(self):
        for branch in NAMED + (Branch(2, (-1,) * 59 + (1,)),):
            counts = counts_of(branch, 200)
            for many in (1, 2, 9, 130):
                self.same(closed_orders(branch, many), tuple(sum(counts[:at]) for at in range(many)))
                self.same(closed_orders(branch, many), count_sums(branch, many))
            found = closed_orders(branch, 130)
            if lacked((branch,)) <= 60:
                # [8.5]: all orders are among them, and a + b - c for c at most a and at most b.
                self.assertTrue(set(orders_by_rank(branch, 60)) <= set(found))
            few = [order for order in found if order < 40]
            self.assertTrue(all(a + b - c in found or a + b - c > found[-1]
                                for c in few for a in few for b in few if c <= a and c <= b))


class LimitsTest(PlainTest):

    def test_lacked_at_the_bound(self):
        for prime in (2, 31):
            line = Branch(prime, ())
            self.same(lacked((line, Branch(prime, (0,) * 59 + (1,)))), 60)
            pair = (Branch(prime, (0,) * 59 + (1,)), line)
            self.same([lacked_by_rank(pair), conductor_of(pair), touch_by_rank(*pair)], [60, (60, 60), 60])
            self.same(len(ring_table(pair, (130, 1))), 130)
            # (2, 7) and its touches 7, 7, ..
            three = (Branch(prime, (0, 0, 0, -1, 1)), line, Branch(prime, (0,) * 49 + (1,)))
            self.same(lacked(three), 3 + 7 + 7 + 50)
            for call in (lacked_by_rank, conductor_of):
                self.raised(TooMany(60), call, three)
            self.raised(TooMany(60), ring_table, three, (1, 1, 1))
            self.raised(TooMany(60), is_in_ring, three, None)
            exact = (Branch(prime, (0, 0, 0, -1, 1)), line, Branch(prime, (0,) * 42 + (1,)))
            self.same([lacked(exact), lacked_by_rank(exact)], [60, 60])
            more = (Branch(prime, (0, 0, 0, -1, 1)), line, Branch(prime, (0,) * 43 + (1,)))
            self.same(lacked(more), 61)
            self.raised(TooMany(60), lacked_by_rank, more)
            self.raised(TooMany(60), is_in_ring, more, (Row(prime, ()),) * 3)

    def test_single_branches_at_the_bound(self):
        # (5, 31) lacks 60, and (5, 32) lacks 62; (11, 13) lacks 60.
        for word in ((0,) * 6 + (-1, 0, 0, 0, 1), (0, -1, 0, 0, 0, 0, -1, 1)):
            branch = Branch(3, word)
            self.same(lacked((branch,)), 60)
            self.same([lacked_by_rank((branch,)), conductor_of((branch,))], [60, (120,)])
            self.same(orders_by_rank(branch, 130), orders_below(generators_of(branch), 130))
            self.assertIs(is_plane_with(branch, 130, plane_with(branch, 130)), True)
            self.raised(InvalidOperation, plane_with, branch, 119)
        over = Branch(3, (0,) * 6 + (-1, 0, -1, 1))
        self.same(lacked((over,)), 62)
        for call in (lacked_by_rank, conductor_of):
            self.raised(TooMany(60), call, (over,))
        self.raised(TooMany(60), orders_by_rank, over, 1)
        self.raised(TooMany(60), ring_table, (over,), (1,))
        self.raised(TooMany(60), plane_with, over, 0)
        self.raised(TooMany(60), plane_with, over, 130)
        # No element has this order: that is told ahead of what the branch lacks.
        self.raised(InvalidOperation, plane_with, over, 1)
        self.raised(TooMany(60), touch_by_rank, over, LINE)
        self.same(closed_orders(over, 3), (0, 5, 10))
        self.assertIs(is_plane_with(over, 5, Plane(3, {(1, 0): 1})), True)

    def test_not_true(self):
        # [8.6]
        one, other = TALL, Branch(3, (0, 0, -1, 0, 1, 1))
        self.same(orders_by_rank(one, 60), orders_by_rank(other, 60))
        self.assertNotEqual(ring_table((one,), (12,)), ring_table((other,), (12,)))
        self.assertIs(is_in_ring((LINE, Branch(3, (0, 1))), (Row(3, ()), Row(3, (0, 1)))), False)


class RingRefuseTest(PlainTest):

    def test_tuples(self):
        for call in (lacked_by_rank, conductor_of):
            self.refused(InvalidCurve, call, ((LINE,),), 0, NO_RINGS)
        self.refused(InvalidCurve, ring_table, ((LINE,), (1,)), 0, NO_RINGS)
        self.refused(InvalidCurve, ring_table, ((LINE,), None), 0, NO_RINGS)
        self.refused(InvalidCurve, is_in_ring, ((LINE,), None), 0, NO_RINGS)

    def test_sizes(self):
        wrong = (None, True, 0, 3, "", (), (3,), (3, 3, 3), [3, 3], {3: 3}, (3, 0), (0, 3), (3, -1), (131, 3), (3, 131),
                 (3, True), (True, 3), (False, 3), (3, None), (3, "3"), (3, (3,)), ((3, 3),), (3, SIXTY), (SIXTY + 1, 3), LINE)
        self.refused(InvalidOperation, ring_table, ((LINE, CUSP), (3, 3)), 1, wrong)
        much = (LINE, Branch(3, (0,) * 59 + (1,)), Branch(3, (0,) * 58 + (1,)))
        self.raised(InvalidOperation, ring_table, much, (0, 1, 1))
        self.raised(TooMany(60), ring_table, much, (1, 1, 1))

    def test_branches(self):
        self.refused(InvalidWord, orders_by_rank, (CUSP, 1), 0, NO_BRANCHES)
        self.refused(InvalidWord, orders_by_rank, (CUSP, None), 0, NO_BRANCHES)
        self.refused(InvalidWord, closed_orders, (CUSP, None), 0, NO_BRANCHES)
        self.refused(InvalidWord, plane_with, (CUSP, None), 0, NO_BRANCHES)
        self.refused(InvalidWord, is_plane_with, (CUSP, None, None), 0, NO_BRANCHES)
        self.refused(InvalidWord, touch_by_rank, (CUSP, None), 0, NO_BRANCHES)
        self.refused(InvalidWord, touch_by_rank, (CUSP, LINE), 1, NO_BRANCHES)
        self.raised(InvalidOperation, touch_by_rank, CUSP, WILD)
        self.raised(InvalidOperation, touch_by_rank, Branch(2, ()), LINE)

    def test_numbers(self):
        for branch in (CUSP, LINE, Branch(3, (-1,) * 59 + (1,))):
            for call in (orders_by_rank, closed_orders):
                self.refused(InvalidCount, call, (branch, 1), 1, NO_INTEGERS + (0, -1, 131, SIXTY, -SIXTY))
            self.refused(InvalidCount, plane_with, (branch, 1), 1, NO_INTEGERS + (-1, 131, SIXTY, -SIXTY))
            self.refused(InvalidCount, is_plane_with, (branch, 1, None), 1, NO_INTEGERS + (-1, 131, SIXTY, -SIXTY))
