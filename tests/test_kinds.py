"""[9.1] to [9.7] and touchtowers.kind.kinds."""

from itertools import islice
from math import gcd

from touchtowers.errors import InvalidCount, InvalidOperation, InvalidOrders, InvalidPrime, InvalidWord, TooMany
from touchtowers.kind import kinds
from touchtowers.kind.kinds import (are_alike, are_exponents, count_of_kind, counts_by_exponents, each_of_kind,
                                    exponents_by_way, exponents_of, generators_by_exponents, is_kind, kind_of, pairs_of)
from touchtowers.number.orders import are_generators, commons, generators_of, lacked_by_orders, shares, word_with
from touchtowers.tower.points import corners_of, count_at, counts_of
from touchtowers.word.ways import way_degree
from touchtowers.word.words import Branch, count_words, each_word
from tests.helpers import (BOW, CUSP, DEEP, FEW_PRIMES, FOUR, HOOK, LINE, NO_INTEGERS, SIDE, SIXTY, SIXTY_ONE, STEEP,
                           TALL, WILD, PlainTest, small_branches, small_words)
from tests.test_orders import SOME, long_branches
from tests.test_ways import NO_BRANCHES, OF_400, OF_401
from tests.test_words import NO_POINTS

EXAMPLES = """
>>> [kind_of(branch) for branch in (LINE, BOW, CUSP, HOOK, STEEP, TALL)]
[(), (), (-1, -1, 1), (-1, -1, 1), (-1, -1, 1), (-1, 0, -1, 0, 1)]
>>> [kind_of(FOUR), kind_of(DEEP), are_alike(CUSP, Branch(31, (7, -1, 30))), is_kind((-1, -1, 2)), is_kind((-1, -1, 1))]
[(-1, -1, 1, -1, 1), (-1, -1, 0, 1, 0, -1, 1), True, False, True]
>>> [exponents_of(CUSP), exponents_of(FOUR), exponents_of(DEEP), pairs_of(FOUR), pairs_of(DEEP), pairs_of(LINE)]
[(2, 3), (4, 6, 7), (6, 8, 11), ((3, 2), (7, 2)), ((4, 3), (11, 2)), ()]
>>> [counts_by_exponents((4, 6, 7)), counts_by_exponents((6, 8, 11)), generators_by_exponents((6, 8, 11)), exponents_by_way(CUSP), exponents_by_way(FOUR)]
[(4, 2, 2, 1, 1), (6, 2, 2, 2, 2, 1, 1), (6, 8, 27), (2, 3), (4, 6, 7)]
>>> [count_of_kind(3, (-1, -1, 1), 2), count_of_kind(3, (-1, -1, 1), 3), count_of_kind(3, (-1, -1, 1), 4), count_of_kind(2, (), 3), list(each_of_kind(2, (-1, -1, 1), 3))]
[0, 8, 16, 6, [(-1, -1, 1), (0, -1, 1), (1, -1, 1)]]
>>> [are_exponents((4, 6, 7)), are_exponents((4, 6)), are_exponents((2, 4, 5)), are_exponents((1,)), generators_by_exponents((1,))]
[True, False, False, True, (1,)]
>>> exponents_by_way(TALL)
raises InvalidOperation
"""
NAMED = (LINE, SIDE, BOW, CUSP, HOOK, FOUR, TALL, STEEP, DEEP, WILD)
# Words over 2 that are no kinds of branches, and what is no word over 2.
NO_KINDS = NO_POINTS + ((-1,), (1,), (0, 1), (1, 1), (-1, 1), (0, -1, 1), (1, -1, 1), (-1, -1, 2), (-1, -1, 1, 1),
                        (-1, -1, 1, 0, 1), (-1, 1, -1, 1), (-1, -1, 1, 1, -1, 1), (-1, -1), (-1, -1, 0), (0,), (-1, 0),
                        (-1, -1, 1) + (0,) * 56 + (1,), (-1, -1, True))
LONG_KIND = (-1, 0, 0) + (0,) * 54 + (0, -1, 1)
DIGITS = 10 ** 90
NO_EXPONENTS = (None, True, 0, 1, "", "2 3", [], [1], [2, 3], {}, {2: 3}, CUSP, (), (0,), (2,), (-1,), (True,), (1, 1),
                (1, 2), (1, 2, 3), (0, 1), (2, 2), (2, 4), (3, 2), (2, True), (True, 3), (2, 3, 4), (2, 3, True), (-2, 3),
                (2, -3), (4, 6), (4, 6, 8), (4, 6, 5), (4, 7, 6), (4, 8, 9), (2, 4, 5), (6, 9, 8), (6, 9, 9, 10), (8, 12, 14),
                (2, "3"), (2, None), ((2, 3),), (2, (3,)), (2, [3]), (0, 2, 3), (4, 6, 7, 8), (2, 2 * DIGITS), (DIGITS,),
                (1,) * 4000)


def naive_kinds(prime, most):
    """[9.2]: the least of all words with few letters that have equal generators, by generators."""
    least = {}
    for word in sorted(small_words(prime, most)):
        least.setdefault(generators_of(Branch(prime, word)), word)
    return least


def naive_counts(exponents):
    """[9.5], word by word."""
    divisors = [gcd(*exponents[:many + 1]) for many in range(len(exponents))]
    pairs = [(exponents[at] - (exponents[at - 1] if at > 1 else 0), divisors[at - 1]) for at in range(1, len(exponents))]
    counts = []
    for m, e in pairs:
        while e:
            counts.extend([e] * (m // e))
            m, e = e, m % e
    return tuple(counts) if pairs else (1,)


class KindTest(PlainTest):

    def test_examples(self):
        self.examples(EXAMPLES, dict(vars(kinds), Branch=Branch))

    def test_constant(self):
        self.same(kinds.MAX_LISTED, 3000)

    def test_kinds(self):
        for prime, most in ((2, 7), (3, 5), (5, 4), (7, 3)):
            least = naive_kinds(prime, most)
            for branch in small_branches(prime, most):
                self.same(kind_of(branch), least[generators_of(branch)])
        for branch in long_branches(2) + long_branches(31) + list(NAMED):
            kind = kind_of(branch)
            self.assertIs(is_kind(kind), True)
            self.same(kind_of(Branch(branch.prime, kind)), kind)
            self.same(generators_of(Branch(branch.prime, kind)), generators_of(branch))
            self.same(len(kind), max(corners_of(branch), default=-1) + 1)
            self.assertLessEqual(kind, branch.word)

    def test_is_kind(self):
        found = [kind_of(branch) for branch in small_branches(2, 6)]
        for word in small_words(2, 6) + small_words(3, 4):
            self.assertIs(is_kind(word), word in found)
        self.judges(is_kind, (), ((), (-1, -1, 1), (-1, 0, -1, 0, 1), (-1, -1, 1) * 20, LONG_KIND), NO_KINDS)
        self.same(len(LONG_KIND), 60)

    def test_alike(self):
        found = small_branches(2, 4) + small_branches(3, 3)[::3] + small_branches(7, 2)[::5] + [Branch(31, (7, -1, 30))]
        for one in found[::2]:
            for other in found:
                self.assertIs(are_alike(one, other), counts_of(one, 60) == counts_of(other, 60))
                self.assertIs(are_alike(one, other), kind_of(one) == kind_of(other))
                self.assertIs(are_alike(one, other), exponents_of(one) == exponents_of(other))
        self.same([are_alike(CUSP, WILD), are_alike(WILD, CUSP), are_alike(LINE, Branch(2, (1,)))], [True] * 3)

    def test_words_of_kinds(self):
        for prime, most in ((2, 6), (3, 5), (5, 3), (7, 3)):
            words = {}
            for word in sorted(small_words(prime, most)):
                words.setdefault((kind_of(Branch(prime, word)), len(word)), []).append(word)
            for kind in {kind for kind, _ in words}:
                for length in range(most + 1):
                    wanted = words.get((kind, length), [])
                    self.same(count_of_kind(prime, kind, length), len(wanted))
                    if len(wanted) <= 3000:
                        self.same(list(each_of_kind(prime, kind, length)), wanted)
            for length in range(most + 1):
                total = sum(count_of_kind(prime, kind, length) for kind in {kind for kind, _ in words})
                self.same(total, count_words(prime, length))

    def test_words_of_no_letters(self):
        for prime in FEW_PRIMES:
            self.same([count_of_kind(prime, (), length) for length in (0, 1, 2)], [1, prime, prime * prime - 1])
            self.same(list(each_of_kind(prime, (), 0)), [()])
            self.same(list(each_of_kind(prime, (), 1)), list(each_word(prime, 1)))
            self.same(list(each_of_kind(prime, (-1, -1, 1), 2)), [])
            self.same(count_of_kind(prime, (), 60), (prime + 1) * prime ** 58 * (prime - 1))
            self.same(count_of_kind(prime, LONG_KIND, 60), (prime + 1) * prime ** 57 * (prime - 1))
            self.same(count_of_kind(prime, LONG_KIND, 59), 0)

    def test_lists_at_the_bound(self):
        # 6 * 5 * 5 * 5 * 4
        found = list(each_of_kind(5, (), 5))
        self.same([count_of_kind(5, (), 5), len(found), found == sorted(found), len(set(found))], [3000, 3000, True, 3000])
        self.same(found[:2] + found[-1:], [(-1, 0, 0, 0, 1), (-1, 0, 0, 0, 2), (4, 4, 4, 4, 4)])
        self.same(count_of_kind(5, (-1, -1, 1), 7), 6 * 4 * 5 * 5 * 5 * 4)
        for kind, length in (((), 6), ((-1, -1, 1), 7)):
            call = each_of_kind(5, kind, length)
            self.raised(TooMany(3000), next, call)
        self.same(list(islice(each_of_kind(31, (), 2), 3)), [(-1, 1), (-1, 2), (-1, 3)])


class ExponentsTest(PlainTest):

    def test_exponents(self):
        branches = [branch for prime, most in ((2, 6), (3, 4), (5, 3)) for branch in small_branches(prime, most)]
        for branch in branches + long_branches(2) + long_branches(7):
            exponents = exponents_of(branch)
            generators = generators_of(branch)
            self.assertIs(are_exponents(exponents), True)
            self.same(generators_by_exponents(exponents), generators)
            # [9.5]
            counts = counts_by_exponents(exponents) if len(exponents) > 1 else ()
            self.same((counts + (1,) * 61)[:61], counts_of(branch, 60))
            # [9.3]
            divisors, parts = commons(generators), shares(generators)
            self.same(commons(generators), tuple(gcd(*exponents[:many + 1]) for many in range(len(exponents))))
            pairs = pairs_of(branch)
            self.same(pairs, tuple((exponents[at] // divisors[at], parts[at - 1]) for at in range(1, len(exponents))))
            for top, share in pairs:
                self.same(gcd(top, share), 1)
                self.assertGreaterEqual(share, 2)

    def test_exponents_of_all_generators(self):
        for first in range(1, 9):
            for second in range(1, 14):
                for third in (None, *range(1, 24)):
                    value = (first, second) if third is None else (first, second, third)
                    if not are_exponents(value):
                        continue
                    generators = generators_by_exponents(value)
                    self.assertIs(are_generators(generators), True)
                    self.same(counts_by_exponents(value), naive_counts(value))
                    steps = [generators[at + 1] - shares(generators)[at - 1] * generators[at]
                             for at in range(1, len(value) - 1)]
                    self.same(steps, [value[at + 1] - value[at] for at in range(1, len(value) - 1)])

    def test_are_exponents(self):
        self.judges(are_exponents, (), ((1,), (2, 3), (4, 6, 7), (4, 10, 11), (6, 8, 11), (6, 9, 10), (8, 12, 14, 15),
                                        (DIGITS, DIGITS + 1), (2, DIGITS + 1), (4, 6, DIGITS * DIGITS + 1)), NO_EXPONENTS)
        for first in range(-2, 9):
            for second in range(-2, 14):
                self.assertIs(are_exponents((first, second)), 1 < first < second and gcd(first, second) == 1)
                for third in range(0, 24):
                    value = (first, second, third)
                    right = 0 < first < second < third and second % first and gcd(first, second) > 1 and gcd(*value) == 1
                    self.assertIs(are_exponents(value), bool(right))

    def test_long_exponents(self):
        # Integers of more than sixty digits.
        self.same(generators_by_exponents((4, 6, DIGITS + 1)), (4, 6, DIGITS + 7))
        self.same(generators_by_exponents((4, 2 * DIGITS + 2, 2 * DIGITS + 3)), (4, 2 * DIGITS + 2, 4 * DIGITS + 5))
        self.same(generators_by_exponents((2, SIXTY_ONE + 1)), (2, SIXTY_ONE + 1))
        self.same(generators_by_exponents((DIGITS, DIGITS + 1)), (DIGITS, DIGITS + 1))
        self.raised(TooMany(3000), counts_by_exponents, (2, SIXTY_ONE + 1))
        self.raised(TooMany(3000), counts_by_exponents, (DIGITS, DIGITS + 1))
        few = [1, 2]
        while few[-1] < 10 ** 80:
            few.append(few[-1] + few[-2])
        self.same(counts_by_exponents(tuple(few[-2:])), naive_counts(tuple(few[-2:])))

    def test_many_counts(self):
        for many in (1, 2, 57, 2997, 2998):
            self.same(counts_by_exponents((2, 2 * many + 1)), (2,) * many + (1, 1))
        self.raised(TooMany(3000), counts_by_exponents, (2, 2 * 2999 + 1))
        self.same(counts_by_exponents((1,)), (1,))
        for generators in SOME:
            exponents = [generators[0], *generators[1:2]]
            for at in range(2, len(generators)):
                exponents.append(exponents[-1] + generators[at] - shares(generators)[at - 2] * generators[at - 1])
            self.same(generators_by_exponents(tuple(exponents)), generators)

    def test_exponents_by_ways(self):
        # [9.4]
        for prime, most in ((2, 6), (3, 5), (5, 4), (7, 3), (31, 1)):
            for branch in small_branches(prime, most)[::1 + prime // 5]:
                if count_at(branch, 0) % prime == 0:
                    self.raised(InvalidOperation, exponents_by_way, branch)
                else:
                    self.same(exponents_by_way(branch), exponents_of(branch))
        for prime in (3, 7, 31):
            for word in ((0,) * 58 + (-1, 1), (-1, 1, 0, -1, 0, 0, 1, -1, 1), (0, -1, 2, 0, 1, -1, 0, 1, 2, 1), (1,) * 60):
                branch = Branch(prime, word)
                if count_at(branch, 0) % prime:
                    self.same(exponents_by_way(branch), exponents_of(branch))

    def test_limits_of_ways(self):
        # (9, 400) and (9, 401), and (9, 400) with the first letter turned.
        for word in ((0,) * 44 + (-1, 0, -1, 0, 0, 1), (-1,) + (0,) * 43 + (-1, 0, -1, 0, 0, 1)):
            branch = Branch(2, word)
            self.same([exponents_of(branch), way_degree(branch), exponents_by_way(branch)], [(9, 400), 400, (9, 400)])
        above = Branch(2, (0,) * 44 + (-1, -1, -1, 0, 0, 1))
        self.same([exponents_of(above), way_degree(above)], [(9, 401), 401])
        self.raised(TooMany(400), exponents_by_way, above)
        # The count at the origin is told ahead of the degree.
        self.raised(InvalidOperation, exponents_by_way, Branch(3, above.word))
        for prime in (2, 3, 31):
            found = [Branch(prime, word) for word in (OF_400, OF_401, (-1,) * 59 + (1,))]
            for branch, limit in zip(found, (False, True, True)):
                if count_at(branch, 0) % prime == 0:
                    self.raised(InvalidOperation, exponents_by_way, branch)
                elif limit:
                    self.raised(TooMany(400), exponents_by_way, branch)
                else:
                    self.same(exponents_by_way(branch), exponents_of(branch))

    def test_not_true(self):
        # [9.7]: 4, 10, 21 and 4, 6, 25 have the count 4 at the origin, and lack 14.
        one, other = [Branch(3, word_with(3, generators)) for generators in ((4, 10, 21), (4, 6, 25))]
        self.same([count_at(one, 0), count_at(other, 0), are_alike(one, other)], [4, 4, False])
        self.same([lacked_by_orders(generators_of(one)), lacked_by_orders(generators_of(other))], [14, 14])
        self.same([kind_of(HOOK), kind_of(HOOK) == HOOK.word], [(-1, -1, 1), False])
        self.assertIs(are_exponents((2, 4, 5)), False)


class KindRefuseTest(PlainTest):

    def test_branches(self):
        for call in (kind_of, exponents_of, pairs_of, exponents_by_way):
            self.refused(InvalidWord, call, (CUSP,), 0, NO_BRANCHES)
        self.refused(InvalidWord, are_alike, (CUSP, None), 0, NO_BRANCHES)
        self.refused(InvalidWord, are_alike, (CUSP, WILD), 1, NO_BRANCHES)

    def test_words_of_kinds(self):
        def first(*passed):
            return next(each_of_kind(*passed))

        for call in (count_of_kind, first):
            self.refuses_primes(call, (), 0)
            self.refuses_primes(call, None, None)
            self.refused(InvalidWord, call, (3, (), 0), 1, NO_KINDS)
            self.refused(InvalidWord, call, (3, (), None), 1, NO_KINDS)
            self.refused(InvalidCount, call, (3, (), 0), 2, NO_INTEGERS + (-1, 61, SIXTY, -SIXTY))
            self.refused(InvalidCount, call, (3, LONG_KIND, 0), 2, NO_INTEGERS + (-1, 61))
        # Errors are raised when the first result is asked for.
        each_of_kind(4, None, None)
        self.raised(InvalidPrime, first, 4, (), 60)

    def test_exponents(self):
        for call in (generators_by_exponents, counts_by_exponents):
            self.refused(InvalidOrders, call, ((2, 3),), 0, NO_EXPONENTS)
