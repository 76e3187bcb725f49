"""[0.17], [7.1] to [7.8], and touchtowers.number.orders."""

from math import gcd

from touchtowers.errors import InvalidCount, InvalidOrders, InvalidPrime, InvalidWord, TooMany
from touchtowers.number import orders
from touchtowers.number.orders import (are_generators, commons, counts_told, gaps, generators_of, is_order,
                                       is_order_paper, is_word_with, lacked_by_orders, last_gap, least_orders,
                                       order_paper, orders_below, shares, word_with)
from touchtowers.tower.points import corners_of, counts_of, tower_height
from touchtowers.tower.touches import touch
from touchtowers.word.ways import Plane, order_on
from touchtowers.word.words import Branch
from tests.helpers import (CUSP, DEEP, FEW_PRIMES, FOUR, HOOK, LINE, NO_INTEGERS, SIDE, SIXTY, SIXTY_ONE, TALL, WILD,
                           PlainTest, numbers_made, plain, small_branches, small_words)
from tests.test_ways import NO_BRANCHES
from tests.test_words import NO_WORDS

EXAMPLES = """
>>> [generators_of(one) for one in (LINE, SIDE, CUSP, FOUR, TALL, DEEP)]
[(1,), (1,), (2, 3), (4, 6, 13), (3, 7), (6, 8, 27)]
>>> [are_generators((4, 6, 13)), are_generators((4, 6, 11)), are_generators((4, 5, 6)), are_generators((3, 2)), are_generators((2, 4)), are_generators((1,)), are_generators((1, 2))]
[True, False, False, False, False, True, False]
>>> [shares((6, 8, 27)), commons((6, 8, 27)), last_gap((4, 6, 13)), lacked_by_orders((6, 8, 27)), gaps((4, 6, 13)), orders_below((3, 7), 11), gaps((1,)), last_gap((1,))]
[(3, 2), (6, 2, 1), 15, 19, (1, 2, 3, 5, 7, 9, 11, 15), (0, 3, 6, 7, 9, 10), (), -1]
>>> [is_order((4, 6, 13), 17), order_paper((4, 6, 13), 17), order_paper((4, 6, 13), 15), order_paper((2, 3), -1), order_paper((1,), 5), is_order_paper((2, 3), 6, (0, 2))]
[True, (1, 0, 1), (-1, 1, 1), (-2, 1), (5,), False]
>>> [least_orders((4, 6, 13)), least_orders((3, 7)), least_orders((1,)), counts_told((4, 6, 13)), counts_told((3, 7)), counts_told((6, 8, 27)), counts_told((1,))]
[(0, 6, 13, 19), (0, 7, 14), (0,), (4, 2, 2, 1, 1), (3, 3, 1, 1, 1), (6, 2, 2, 2, 2, 1, 1), ()]
>>> [is_word_with(3, (4, 6, 13), (0, -1, 1, -1, 1)), is_word_with(3, (2, 3), (0, -1, 1, 0, 2)), is_word_with(3, (2, 3), (0, -1)), is_word_with(3, (1,), (0, 2)), len(word_with(2, (6, 8, 27)))]
[True, True, False, True, 7]
>>> shares((4, 6))
raises InvalidOrders
"""
# Generators of branches, and no ones.
SOME = ((1,), (2, 3), (2, 5), (2, 15), (3, 4), (3, 5), (3, 7), (4, 5), (4, 6, 13), (4, 6, 15), (4, 10, 21), (6, 8, 27),
        (6, 9, 19), (6, 9, 22), (8, 12, 26, 53), (8, 12, 50, 101), (12, 18, 38, 115), (5, 13), (9, 12, 37), (10, 15, 31))
LONG = ((SIXTY - 1, SIXTY), (2, SIXTY), (2 ** 100, 3 * 2 ** 99, 7 * 2 ** 99 + 2 ** 50, 2 ** 160 + 1),
        (4, 6, SIXTY), (3 ** 90, 3 ** 90 + 1))
NO_GENERATORS = (None, True, 0, 1, 2, "", "2 3", [], [1], [2, 3], {}, {2: 3}, CUSP, (), (0,), (2,), (-1,), (True,),
                 (1, 1), (1, 2), (1, 2, 3), (0, 1), (2, 2), (2, 4), (3, 2), (2, True), (2, 3, True), (True, 3), (2, 3, 4),
                 (2, 3, 7), (-2, 3), (2, -3), (4, 6), (4, 6, 7), (4, 6, 11), (4, 6, 12), (4, 6, 14), (4, 5, 6), (6, 4, 13),
                 (4, 6, 13, 27), (4, 8, 17), (6, 9, 18), (6, 9, 17), (2, "3"), (2, None), ((2, 3),), (2, (3,)),
                 (2, [3]), (2, SIXTY_ONE + 1), (SIXTY, SIXTY_ONE), (0, 0), (8, 12, 26, 52), (8, 12, 26, 51),
                 (1,) * 4000, (2, 3) * 2000)


def naive_are_generators(value):
    """[7.3], word by word, for tuples of integers."""
    if value == (1,):
        return True
    if len(value) < 2 or not 2 <= value[0] < value[1]:
        return False
    divisors = [gcd(*value[:many + 1]) for many in range(len(value))]
    if divisors[-1] != 1 or any(divisors[at] >= divisors[at - 1] for at in range(1, len(value))):
        return False
    return all(value[at + 1] * divisors[at] > value[at] * divisors[at - 1] for at in range(1, len(value) - 1))


def naive_orders(generators, below):
    """All sums of generators, each taken any number of times."""
    found = {0}
    waiting = [0]
    while waiting:
        number = waiting.pop()
        for generator in generators:
            if number + generator < below and number + generator not in found:
                found.add(number + generator)
                waiting.append(number + generator)
    return sorted(number for number in found if number < below)


def long_branches(prime):
    return [Branch(prime, word) for word in ((0,) * 58 + (-1, 1), (-1,) * 59 + (1,), (1, -1, 1) * 20, (0, -1) * 29 + (1, 1),
                                             (0, 0, -1, 0, -1, 1, 0, -1, -1, 1, -1, 1), (0, -1, -1, 0, 1, 1, -1, 0, 0, 1))]


def lacked_by_counts(branch):
    return sum(count * (count - 1) // 2 for count in counts_of(branch, 60))


class GeneratorsTest(PlainTest):

    def test_examples(self):
        self.examples(EXAMPLES, vars(orders))

    def test_constants(self):
        self.same([orders.MAX_GAPS, orders.MAX_LEAST], [10000, 2000])

    def test_are_generators(self):
        self.judges(are_generators, (), SOME + LONG, NO_GENERATORS)
        made = numbers_made(5, 4000, 40)
        for at in range(0, 3990, 3):
            for many in (1, 2, 3):
                value = tuple(sorted(made[at:at + many]))
                self.assertIs(are_generators(value), naive_are_generators(value), value)
        for first in range(14):
            for second in range(22):
                self.assertIs(are_generators((first, second)), naive_are_generators((first, second)))
                for third in range(40):
                    value = (first, second, third)
                    self.assertIs(are_generators(value), naive_are_generators(value), value)

    def test_generators(self):
        for branch in [branch for prime, most in ((2, 6), (3, 4), (5, 3), (31, 1))
                       for branch in small_branches(prime, most)] + long_branches(2) + long_branches(31):
            generators = generators_of(branch)
            self.assertIs(are_generators(generators), True)
            self.same(generators[0], counts_of(branch, 0)[0])
            self.assertIs(generators == (1,), branch.is_smooth)
            # [7.3]: the common divisors are the counts at the highest corners of the groups.
            corners = corners_of(branch)
            ends = [height for height in corners if height + 1 not in corners]
            counts = counts_of(branch, 60)
            self.same(commons(generators), (counts[0],) + tuple(counts[height] for height in ends))
            # [0.17] and [7.5]
            self.same(lacked_by_orders(generators), lacked_by_counts(branch))
            # [7.6]
            if generators != (1,) and max(corners) < 200:
                self.same(counts_told(generators), counts[:max(corners) + 1])
                self.assertGreaterEqual(len(branch), len(counts_told(generators)))

    def test_equal_generators(self):
        # [7.6], also over unlike primes
        for found in (small_branches(2, 5) + small_branches(3, 3), small_branches(3, 4)[::3] + long_branches(5)):
            names = {}
            for branch in found:
                told = (tower_height(branch), corners_of(branch), counts_of(branch, 60))
                names.setdefault(generators_of(branch), set()).add(told)
            self.assertTrue(all(len(told) == 1 for told in names.values()))
            self.same(len(set().union(*names.values())), len(names))

    def test_orders_of_polynomials(self):
        # [7.2]
        for branch in (CUSP, FOUR, TALL, HOOK, DEEP, WILD, SIDE):
            generators = generators_of(branch)
            for table in ({(0, 0): 1}, {(1, 0): 1}, {(0, 1): 1}, {(0, 2): 1, (3, 0): 1}, {(0, 2): 1, (3, 0): branch.prime - 1},
                          {(1, 1): 1, (4, 0): 1, (0, 3): 1}, {(0, 4): 1, (6, 0): 1}, {(2, 0): 1, (0, 2): branch.prime - 1}):
                order = order_on(Plane(branch.prime, table), branch)
                if order is not None:
                    self.assertIs(is_order(generators, order), True)

    def test_shares_and_commons(self):
        for generators in SOME + LONG:
            divisors = [gcd(*generators[:many + 1]) for many in range(len(generators))]
            self.same(commons(generators), tuple(divisors))
            parts = shares(generators)
            self.same(parts, tuple(high // low for high, low in zip(divisors, divisors[1:])))
            product = 1
            for part in parts:
                self.assertGreaterEqual(part, 2)
                product = product * part
            self.same(product, generators[0])


class OrdersTest(PlainTest):

    def test_papers(self):
        for generators in SOME:
            top = last_gap(generators)
            known = naive_orders(generators, 2 * top + 60)
            for number in list(range(-30, 2 * top + 50)) + [SIXTY, -SIXTY]:
                paper = order_paper(generators, number)
                self.same(sum(entry * generator for entry, generator in zip(paper, generators)), number)
                self.same(len(paper), len(generators))
                for entry, share in zip(paper[1:], shares(generators)):
                    self.assertTrue(0 <= entry < share)
                self.assertIs(is_order_paper(generators, number, paper), True)
                self.assertIs(is_order(generators, number), paper[0] >= 0)
                if -30 <= number < 2 * top + 50:
                    self.assertIs(is_order(generators, number), number in known)

    def test_gaps(self):
        for generators in SOME:
            top = last_gap(generators)
            known = naive_orders(generators, max(0, top) + 300)
            self.same(gaps(generators), tuple(number for number in range(top + 1) if number not in known))
            self.same(lacked_by_orders(generators), len(gaps(generators)))
            # [7.5]: below 0, the last gap, and 1 above it.
            self.same([is_order(generators, number) for number in (-1, 0, top, top + 1)], [False, True, False, True])
            for number in range(-20, top + 21):
                self.assertIs(is_order(generators, number), not is_order(generators, top - number))
            for number in (0, 1, 2, 7, top + 1, top + 2, top + 300):
                self.same(orders_below(generators, number), tuple(naive_orders(generators, number)))

    def test_long_generators(self):
        for generators in LONG:
            top = last_gap(generators)
            self.same(lacked_by_orders(generators) * 2, top + 1)
            for number in (0, generators[-1], SIXTY, -SIXTY, -1):
                paper = order_paper(generators, number)
                self.same(sum(entry * generator for entry, generator in zip(paper, generators)), number)
                self.assertIs(is_order_paper(generators, number, paper), True)
                self.assertIs(is_order(generators, number), paper[0] >= 0)
            self.raised(TooMany(10000), gaps, generators)
            self.same(orders_below((2, SIXTY), 9), (0, 2, 4, 6, 8))
        self.same(last_gap((2, SIXTY)), SIXTY - 2)
        self.assertIs(is_order((2, SIXTY), SIXTY - 2), False)
        self.assertIs(is_order((2, SIXTY), SIXTY - 1), True)
        self.same(orders_below((SIXTY - 1, SIXTY), 10000), (0,))

    def test_limits_of_gaps(self):
        self.same(len(gaps((2, 20001))), 10000)
        self.raised(TooMany(10000), gaps, (2, 20003))
        self.same(len(gaps((101, 201))), 10000)
        self.same(orders_below((2, 3), 10000)[-1], 9999)
        self.same(orders_below((3, 7), 0), ())
        self.same(orders_below((1,), 3), (0, 1, 2))
        self.refused(InvalidCount, orders_below, ((2, 3), 0), 1, (-1, 10001, SIXTY, -SIXTY))

    def test_least_orders(self):
        for generators in SOME:
            found = least_orders(generators)
            self.same(len(found), generators[0])
            self.same(list(found), sorted(found))
            self.same(sorted(number % generators[0] for number in found), list(range(generators[0])))
            for number in found:
                self.assertIs(is_order(generators, number), True)
                self.assertIs(is_order(generators, number - generators[0]), False)
        self.same(least_orders((2000, 2001)), tuple(range(0, 2001 * 2000, 2001)))
        self.raised(TooMany(2000), least_orders, (2001, 2002))
        self.raised(TooMany(2000), least_orders, LONG[0])
        self.same(least_orders((2, SIXTY)), (0, SIXTY))

    def test_papers_of_wrong_kinds(self):
        right = order_paper((4, 6, 13), 17)
        self.same(right, (1, 0, 1))
        wrong = (None, True, 0, "", (), [1, 0, 1], {0: 1}, (True, 0, 1), (1, False, 1), (1, 0, True), (1, 0), (1, 0, 1, 0),
                 (1, 0, 0), ("1", 0, 1), (1, (0,), 1), ((1, 0, 1),), (-2, 2, 1), (1, 0, SIXTY_ONE), CUSP)
        self.judges(is_order_paper, ((4, 6, 13), 17), (right,), wrong)
        self.judges(is_order_paper, ((1,), 1), ((1,),), ((True,), (0,), 1, (), (1, 0), [1]))
        self.judges(is_order_paper, ((1,), -5), ((-5,),), ((5,), -5))


class WordsTest(PlainTest):

    def test_counts_told(self):
        # (2, 2 d + 1): so often the count 2, and twice the count 1.
        for many in (1, 2, 57, 58, 197, 198):
            self.same(counts_told((2, 2 * many + 1)), (2,) * many + (1, 1))
        self.raised(TooMany(200), counts_told, (2, 2 * 199 + 1))
        for generators in LONG[1:]:
            self.raised(TooMany(200), counts_told, generators)
        for generators in SOME:
            counts = counts_told(generators)
            self.same(sum(count * (count - 1) // 2 for count in counts), lacked_by_orders(generators))

    def test_words(self):
        for prime in FEW_PRIMES:
            for generators in SOME + ((2, 115), (3, 100)):
                word = word_with(prime, generators)
                self.same(len(word), len(counts_told(generators)))
                self.same(generators_of(Branch(prime, word)), generators)
                self.assertIs(is_word_with(prime, generators, word), True)
                self.assertIs(is_word_with(prime, generators, word + (1,)), True)
                self.assertIs(is_word_with(prime, (5, 7), word), False)
        self.same(word_with(3, (1,)), ())

    def test_limits_of_words(self):
        # 59 counts are told, and 60.
        self.same([len(counts_told((2, 115))), len(word_with(2, (2, 115)))], [59, 59])
        self.same(len(counts_told((2, 117))), 60)
        self.raised(TooMany(60), word_with, 2, (2, 117))
        self.raised(TooMany(60), word_with, 2, (2, 2 * 199 + 1))
        for generators in LONG:
            self.raised(TooMany(60), word_with, 31, generators)
        self.assertIs(is_word_with(2, (2, 117), (0,) * 58 + (-1, 1)), True)

    def test_is_word_with(self):
        for prime, most in ((2, 5), (3, 3)):
            for word in small_words(prime, most):
                generators = generators_of(Branch(prime, word))
                for others in ((1,), (2, 3), (3, 4), (3, 5), (2, 5), (4, 6, 13)):
                    self.assertIs(is_word_with(prime, others, word), others == generators)
        for value in NO_WORDS:
            self.assertIs(is_word_with(3, (1,), value), False)
            self.assertIs(is_word_with(3, (2, 3), value), False)
        self.assertIs(is_word_with(2, (2, 3), (0, -1, 2)), False)
        self.assertIs(is_word_with(3, (2, 3), (0, -1, True)), False)

    def test_not_true(self):
        # [7.8]
        self.assertIs(are_generators((4, 6, 7)), False)
        self.assertIs(are_generators((3, 4, 5)), False)
        self.same(last_gap((2, 13)), last_gap((3, 7)))
        self.same([len(word_with(2, (2, 3))), generators_of(Branch(2, (0, 0, -1, 0, 1)))], [3, (3, 7)])
        # m is 11 for sums of 4, 5 and 6 less 7: of s and 7 - s just one is a sum, but these are no generators.
        sums = naive_orders((4, 5, 6), 60)
        self.assertTrue(all((number in sums) != (7 - number in sums) for number in range(-30, 50)))
        self.same(touch(CUSP, FOUR), 13)


class OrdersRefuseTest(PlainTest):

    def test_branches(self):
        self.refused(InvalidWord, generators_of, (CUSP,), 0, NO_BRANCHES)

    def test_generators(self):
        for call in (shares, commons, last_gap, lacked_by_orders, gaps, least_orders, counts_told):
            self.refused(InvalidOrders, call, ((2, 3),), 0, NO_GENERATORS)
        for call in (is_order, order_paper, orders_below):
            self.refused(InvalidOrders, call, ((2, 3), 0), 0, NO_GENERATORS)
            self.refused(InvalidOrders, call, ((2, 3), None), 0, NO_GENERATORS)
            self.refused(InvalidCount, call, ((2, 3), 0), 1, NO_INTEGERS)
        self.refused(InvalidOrders, is_order_paper, ((2, 3), None, (0, 0)), 0, NO_GENERATORS)
        self.refused(InvalidCount, is_order_paper, ((2, 3), 0, (0, 0)), 1, NO_INTEGERS)
        self.refused(InvalidCount, is_order_paper, ((2, 3), 0, None), 1, NO_INTEGERS)

    def test_words(self):
        self.refuses_primes(word_with, (2, 3))
        self.refuses_primes(word_with, None)
        self.refuses_primes(is_word_with, (2, 3), (0, -1, 1))
        self.refuses_primes(is_word_with, None, None)
        self.refused(InvalidOrders, word_with, (3, (2, 3)), 1, NO_GENERATORS)
        self.refused(InvalidOrders, is_word_with, (3, (2, 3), (0, -1, 1)), 1, NO_GENERATORS)
        self.refused(InvalidOrders, is_word_with, (3, (2, 3), None), 1, NO_GENERATORS)
        self.raised(InvalidPrime, word_with, 4, (2, 117))

    def test_nothing_is_changed(self):
        generators = (4, 6, 13)
        before = plain(generators)
        for _ in range(2):
            self.same(least_orders(generators), (0, 6, 13, 19))
            self.same(gaps(generators), (1, 2, 3, 5, 7, 9, 11, 15))
        self.same(plain(generators), before)
