"""[15.1] to [15.4], and touchtowers.roll.rolls."""

from itertools import combinations, product

from touchtowers.errors import InvalidCount, InvalidOrders, InvalidPrime, TooMany
from touchtowers.kind.kinds import kind_of
from touchtowers.number.orders import are_generators, generators_of, lacked_by_orders, last_gap
from touchtowers.roll import rolls
from touchtowers.roll.rolls import (count_kinds, first_branch, generators_of_row, generators_with, is_count_row, row_of,
                                    rows_with, tally)
from touchtowers.tower.points import counts_of, reduced_counts
from touchtowers.word.words import Branch, each_word
from tests.helpers import (CUSP, DEEP, FEW_PRIMES, FOUR, LINE, NO_INTEGERS, NO_PRIMES, SIXTY, SIXTY_ONE, PlainTest,
                           small_branches, small_words)
from tests.test_orders import NO_GENERATORS, SOME

EXAMPLES = """
>>> [generators_with(0), generators_with(3), generators_with(6), generators_with(8), count_kinds(9), count_kinds(12)]
[((1,),), ((2, 7), (3, 4)), ((2, 13), (3, 7), (4, 5)), ((2, 17), (4, 6, 13)), 4, 5]
>>> [rows_with(3), row_of((4, 6, 13)), row_of((3, 7)), generators_of_row((3, 3, 1)), generators_of_row((6, 2, 2, 2, 2, 1))]
[((2, 2, 2, 1), (3, 1)), (4, 2, 2, 1), (3, 3, 1), (3, 7), (6, 8, 27)]
>>> [is_count_row((4, 2, 2, 1)), is_count_row((4, 2, 1)), is_count_row((3, 2, 1)), is_count_row((5, 3, 1)), is_count_row((1,)), is_count_row((2, 2))]
[True, False, True, False, True, False]
>>> [first_branch(3, (2, 3)).word, first_branch(3, (2, 5)).word, first_branch(5, (1,)).word, tally(3, 2), tally(3, 3), tally(2, 3)]
[(-1, -1, 1), (-1, 0, -1, 1), (), {0: 8}, {0: 24, 1: 8}, {0: 6, 1: 3}]
>>> row_of((4, 6, 11))
raises InvalidOrders
"""
NO_ROWS = (None, True, False, 0, 1, "", "1", [], [1], [2, 1], {}, {1: 1}, (), (0,), (2,), (-1,), (True,), (2, True), (1, 1), (2, 1, 1), (2, 2),
           (1, 2, 1), (2, 0, 1), (4, 2, 1), (5, 3, 1), (3, 4, 1), (4, 3, 2, 1), (6, 4, 2, 1), (2, False), (None,), ("1",), ((1,),), ([1],),
           (2, None, 1), (2, "1"), (SIXTY_ONE, 1), (SIXTY,), (2, 1, 2), (-2, -1), (-2, 1), (3, -1, 1), (8, 4, 2, 1), CUSP, (CUSP,))


def naive_is_row(row):
    """[15.2], word by word, for tuples of small integers."""
    if row == (1,):
        return True
    if not row or row[-1] != 1 or any(count < 2 for count in row[:-1]):
        return False
    longer, many = row + (1,) * (max(row) + 1), []
    for i, count in enumerate(row):
        fits = [k for k in range(1, count + 1) if sum(longer[i + 1:i + k + 1]) == count
                and len(set(longer[i + 1:i + k])) <= 1 and longer[i + k] <= min(longer[i + 1:i + k], default=longer[i + k])]
        if not fits:
            return False
        many.append(fits[0])
    return all(many[j] == 1 for i in range(len(row)) for j in range(i + 1, len(row)) if j + 2 <= i + many[i])


def lacked_by_row(row):
    return sum(count * (count - 1) // 2 for count in row)


class RollTest(PlainTest):

    def test_examples(self):
        self.examples(EXAMPLES, vars(rolls))

    def test_constants(self):
        self.same([rolls.MAX_ROLLED, rolls.MAX_TALLIED], [12, 3000])

    def test_all_generators(self):
        # A branch that lacks 12 has a last generator of 25 at most, and no more than three of them: 8 counts lack 28.
        found = [numbers for size in (1, 2, 3) for numbers in combinations(range(1, 32), size) if are_generators(numbers)]
        for lacked in range(13):
            wanted = tuple(sorted(numbers for numbers in found if last_gap(numbers) == 2 * lacked - 1))
            self.same(generators_with(lacked), wanted)
            self.same(count_kinds(lacked), len(wanted))
            self.same(rows_with(lacked), tuple(sorted(row_of(numbers) for numbers in wanted)))
            if lacked:
                # [15.4]
                self.assertIn((2, 2 * lacked + 1), wanted)
        self.same([count_kinds(lacked) for lacked in range(13)], [1, 1, 1, 2, 2, 1, 3, 2, 2, 4, 4, 2, 5])

    def test_all_words(self):
        # Words of 7 letters tell all branches that lack up to 5: at most 5 of their counts are above 1.
        rows, numbers = {}, {}
        for branch in small_branches(2, 7):
            lacked = sum(count * (count - 1) // 2 for count in counts_of(branch, 60))
            rows.setdefault(lacked, set()).add(reduced_counts(branch))
            numbers.setdefault(lacked, set()).add(generators_of(branch))
        for lacked in range(6):
            self.same(rows_with(lacked), tuple(sorted(rows[lacked])))
            self.same(generators_with(lacked), tuple(sorted(numbers[lacked])))
        for lacked in range(6, 13):
            self.assertTrue(rows.get(lacked, set()) <= set(rows_with(lacked)))

    def test_rows(self):
        for lacked in range(13):
            for row in rows_with(lacked):
                self.same([lacked_by_row(row), is_count_row(row)], [lacked, True])
                # [15.4]
                self.assertLessEqual(len(row) - 1, lacked)
        self.same([rows_with(0), rows_with(1), rows_with(12)[0]], [((1,),), ((2, 1),), (2,) * 12 + (1,)])

    def test_limits(self):
        for call in (generators_with, count_kinds, rows_with):
            self.refused(InvalidCount, call, (0,), 0, NO_INTEGERS + (-1, 13, SIXTY, -SIXTY))

    def test_not_true(self):
        # [15.4]
        self.same([count_kinds(4), count_kinds(5)], [2, 1])
        self.same(generators_with(8), ((2, 17), (4, 6, 13)))
        one, other = (4, 2, 2, 1), (2, 2, 2, 2, 1)
        self.same([sum(one), sum(other), is_count_row(one), is_count_row(other), lacked_by_row(one), lacked_by_row(other)],
                  [9, 9, True, True, 8, 4])


class RowTest(PlainTest):

    def test_all_small_rows(self):
        for size in range(1, 7):
            for row in product(range(1, 6 if size > 4 else 9), repeat=size):
                self.assertIs(is_count_row(row), naive_is_row(row))

    def test_rows_of_words(self):
        # The count rows are just the reduced counts of branches: rows of few words, and words of few letters.
        found = {reduced_counts(branch) for prime, most in ((2, 7), (3, 5)) for branch in small_branches(prime, most)}
        for row in found:
            self.assertIs(is_count_row(row), True)
            self.assertIs(naive_is_row(row), True)
        for size in range(1, 5):
            for row in product(range(1, 5), repeat=size):
                if is_count_row(row):
                    self.assertIn(row, found)

    def test_judged(self):
        right = ((1,), (2, 1), (7, 1), (3, 2, 1), (2,) * 2000 + (1,), (9, 9, 9, 5, 4, 1), (SIXTY, 1), (SIXTY, SIXTY - 1, 1), (6, 2, 2, 2, 1),
                 (10 ** 30, 10 ** 29, 10 ** 29, 10 ** 29, 10 ** 29, 10 ** 29, 10 ** 29, 10 ** 29, 10 ** 29, 10 ** 29, 10 ** 29, 1))
        self.judges(is_count_row, (), right, NO_ROWS)
        self.judges(is_count_row, (), (), (right[-1][:-2] + (1,), (SIXTY, 2, 1), (10 ** 30, 10 ** 29, 1), (2,) * 2000 + (1, 1), (3,) + (2,) * 2000 + (1,)))

    def test_there_and_back(self):
        for branch in small_branches(2, 7) + small_branches(3, 5) + [LINE, FOUR, DEEP]:
            numbers, row = generators_of(branch), reduced_counts(branch)
            self.same([row_of(numbers), generators_of_row(row)], [row, numbers])
        for numbers in SOME:
            self.same(generators_of_row(row_of(numbers)), numbers)
            self.same(lacked_by_row(row_of(numbers)), lacked_by_orders(numbers))
            self.assertIs(is_count_row(row_of(numbers)), True)

    def test_great_rows(self):
        for numbers in ((SIXTY - 1, SIXTY), (10 ** 50, 10 ** 50 + 1), (10 ** 30, 10 ** 31 + 1), (2 * 10 ** 30, 3 * 10 ** 30, 6 * 10 ** 30 + 1)):
            self.assertIs(are_generators(numbers), True)
            row = row_of(numbers)
            self.same([is_count_row(row), generators_of_row(row), row[0]], [True, numbers, numbers[0]])
        self.same([row_of((SIXTY - 1, SIXTY)), row_of((10 ** 30, 10 ** 31 + 1))], [(SIXTY - 1, 1), (10 ** 30,) * 10 + (1,)])
        self.same(row_of((2 * 10 ** 30, 3 * 10 ** 30, 6 * 10 ** 30 + 1)), (2 * 10 ** 30, 10 ** 30, 10 ** 30, 1))

    def test_limits(self):
        self.same([len(row_of((2, 1999))), generators_of_row((2,) * 999 + (1,))], [1000, (2, 1999)])
        self.same(len(row_of((3, 2998))), 1000)
        for numbers in ((2, 2001), (3, 3001), (2, SIXTY)):
            self.raised(TooMany(1000), row_of, numbers)
        self.raised(TooMany(1000), generators_of_row, (2,) * 1000 + (1,))
        self.raised(TooMany(1000), generators_of_row, (3,) * 3000 + (2, 1))
        self.raised(InvalidOrders, generators_of_row, (2,) * 1000 + (1, 1))
        self.raised(InvalidOrders, generators_of_row, (2,) * 1001)
        self.refused(InvalidOrders, row_of, ((2, 3),), 0, NO_GENERATORS)
        self.refused(InvalidOrders, generators_of_row, ((2, 1),), 0, NO_ROWS)


class FirstTest(PlainTest):

    def test_first_words(self):
        # [15.3], by all words of as many letters.
        for prime, most in ((2, 7), (3, 5), (5, 4)):
            least = {}
            for word in small_words(prime, most):
                numbers = generators_of(Branch(prime, word))
                if numbers not in least or (len(word), word) < (len(least[numbers]), least[numbers]):
                    least[numbers] = word
            self.assertGreater(len(least), 3)
            for numbers, word in least.items():
                self.same([first_branch(prime, numbers).word, first_branch(prime, numbers).prime], [word, prime])
                self.assertLessEqual(set(word), {-1, 0, 1})

    def test_generators(self):
        for numbers in SOME:
            for prime in FEW_PRIMES:
                try:
                    branch = first_branch(prime, numbers)
                except TooMany:
                    self.assertGreater(len(row_of(numbers)), 10)
                    continue
                self.same([generators_of(branch), branch.prime, branch.word], [numbers, prime, kind_of(branch)])
                self.same(first_branch(2, numbers).word, branch.word)

    def test_limits(self):
        self.same([len(first_branch(3, (2, 117)).word), first_branch(3, (2, 117)).word], [60, (-1,) + (0,) * 57 + (-1, 1)])
        for prime in (2, 31):
            for numbers in ((2, 119), (2, SIXTY), (SIXTY - 1, SIXTY), (60, 61)):
                self.raised(TooMany(60), first_branch, prime, numbers)
        self.same([len(first_branch(2, (58, 59)).word), len(first_branch(31, (59, 60)).word)], [59, 60])
        self.refuses_primes(first_branch, (2, 3))
        self.refuses_primes(first_branch, None)
        self.refused(InvalidOrders, first_branch, (3, (2, 3)), 1, NO_GENERATORS)


class TallyTest(PlainTest):

    def test_tallies(self):
        # By all words.
        for prime, most in ((2, 6), (3, 4), (5, 3), (31, 2)):
            for length in range(most + 1):
                wanted = {}
                for word in small_words(prime, length):
                    if len(word) == length:
                        lacked = sum(count * (count - 1) // 2 for count in counts_of(Branch(prime, word), 60))
                        wanted[lacked] = wanted.get(lacked, 0) + 1
                self.same(tally(prime, length), {lacked: wanted[lacked] for lacked in sorted(wanted)})
        self.same([tally(31, 0), tally(31, 1), tally(2, 0), tally(2, 1)], [{0: 1}, {0: 31}, {0: 1}, {0: 2}])

    def test_limits(self):
        for prime, most in ((2, 8), (3, 6), (5, 4), (7, 3), (11, 3), (13, 3), (17, 2), (31, 2)):
            found = tally(prime, most)
            self.same(sum(found.values()), len(list(each_word(prime, most))))
            self.assertLessEqual(sum(found.values()), 3000)
            for length in (most + 1, 59, 60):
                self.raised(TooMany(3000), tally, prime, length)
        for prime in FEW_PRIMES:
            self.refused(InvalidCount, tally, (prime, 0), 1, NO_INTEGERS + (-1, 61, SIXTY, -SIXTY))
        self.refused(InvalidPrime, tally, (3, 2), 0, NO_PRIMES)
        self.refused(InvalidPrime, tally, (3, None), 0, NO_PRIMES)

    def test_limit_itself(self):
        # No prime and length have just 3000 words.
        before = rolls.MAX_TALLIED
        try:
            rolls.MAX_TALLIED = 2187 - 729
            self.same(sum(tally(2, 7).values()), 729)
            rolls.MAX_TALLIED = 729
            self.same(sum(tally(2, 7).values()), 729)
            rolls.MAX_TALLIED = 728
            self.raised(TooMany(728), tally, 2, 7)
        finally:
            rolls.MAX_TALLIED = before
