"""[2.4] to [2.6] and touchtowers.base.tables."""

from itertools import product

from touchtowers.base import tables
from touchtowers.base.rows import Row
from touchtowers.base.tables import bar_of, echelon, is_bar, is_solved, kernel, rank, solved
from touchtowers.errors import InvalidPrime, InvalidTable
from tests.helpers import CUSP, FEW_PRIMES, SIXTY, SIXTY_ONE, PlainTest, numbers_made

EXAMPLES = """
>>> TABLE = ((1, 2, 0), (2, 1, 1), (0, 0, 1))
>>> [rank(3, TABLE), echelon(3, TABLE), kernel(3, TABLE), solved(3, TABLE, (1, 0, 0)), is_bar(3, TABLE, (1, 0, 0), (1, 1, 2))]
[2, ((1, 2, 0), (0, 0, 1)), ((1, 1, 0),), None, True]
>>> [is_solved(3, TABLE, (1, 0, 1), (1, 0, 1)), bar_of(3, TABLE, (1, 0, 1)), echelon(3, ((0, 0),)), kernel(3, ((0, 0),))]
[True, None, (), ((1, 0), (0, 1))]
"""

PAIR = ((1, 2), (0, 1))
# No tables over 3.
NO_TABLES = (None, True, 0, 1, "", "12", "0" * 400, [], [[1]], [(1,)], {}, {0: (1,)}, {(1,): 1}, CUSP, Row(3, ()),
             (), ((),), ((), ()), (1,), (1, 2), ([1],), ([1], [2]), ("1",), ((1,), (1, 2)), ((1, 2), (1,)),
             ((1,), ()), ((1,), [1]), ((1, 3),), ((-1,),), ((True,),), ((0, False),), ((None,),), (("1",),),
             (((1,),),), ((SIXTY,),), ((SIXTY_ONE,),), (None,), ({1: 1},), (CUSP,), ((1, 0), (0, True)),
             ((1,),) * 401, ((1,) * 401,), ((0,),) * 4000)
# No pairs of residues of 3.
NO_PAIRS = (None, True, 0, 1, "", "12", [], [1, 2], {}, {0: 1, 1: 1}, CUSP, (), (1,), (1, 2, 0), (1, 3), (-1, 0),
            (True, 0), (1, False), ("1", "2"), (None, None), ((1, 2),), ([1], [2]), (SIXTY, 0), (0, SIXTY_ONE),
            ((1, 2), (0, 1)), (0,) * 400)


def some_tables(prime, many):
    """Tables of several sizes, among them such of low ranks, the same at each run."""
    made = numbers_made(prime + many, many * 64, prime)
    found = []
    for at in range(many):
        lines, columns = at % 4 + 1, at // 4 % 5 + 1
        part = made[64 * at:64 * at + lines * columns]
        table = [tuple(part[line * columns:(line + 1) * columns]) for line in range(lines)]
        table.append(tuple((one + 2 * other) % prime for one, other in zip(table[0], table[-1])))
        found.append(tuple(table))
    return found


def mixes(prime, lines, columns):
    """All mixes of some lines."""
    found = {(0,) * columns}
    for line in lines:
        found = {tuple((one + factor * other) % prime for one, other in zip(mix, line))
                 for mix in found for factor in range(prime)}
    return found


def makes(prime, line, value):
    return sum(one * other for one, other in zip(line, value)) % prime


def is_echelon(lines):
    """[2.5], word by word."""
    firsts = []
    for line in lines:
        if not any(line):
            return False
        firsts.append(min(at for at, entry in enumerate(line) if entry))
        if line[firsts[-1]] != 1:
            return False
    if firsts != sorted(set(firsts)):
        return False
    return all(line[first] == (at == place) for at, line in enumerate(lines) for place, first in enumerate(firsts))


class TablesTest(PlainTest):

    def test_examples(self):
        self.examples(EXAMPLES, vars(tables))

    def test_constant(self):
        self.same(tables.MAX_LINES, 400)

    def test_all_small_tables(self):
        for prime, lines, columns in ((2, 1, 3), (2, 2, 3), (2, 3, 2), (3, 2, 2), (3, 1, 2), (5, 1, 2)):
            for entries in product(range(prime), repeat=lines * columns):
                table = tuple(entries[columns * line:columns * line + columns] for line in range(lines))
                self.check_table(prime, table)
                self.check_goals(prime, table, list(product(range(prime), repeat=lines)))

    def test_some_tables(self):
        for prime, many in ((2, 40), (3, 40), (5, 20), (31, 4)):
            for table in some_tables(prime, many):
                if prime ** len(table[0]) < 1000:
                    self.check_table(prime, table)
                self.check_goals(prime, table, [line[::-1] for line in zip(*table)] + [(0,) * len(table)])
                self.check_goals(prime, table, [tuple(numbers_made(seed, len(table), prime)) for seed in range(4)])

    def check_table(self, prime, table):
        columns = len(table[0])
        spanned = mixes(prime, table, columns)
        lines = echelon(prime, table)
        self.assertTrue(is_echelon(lines), lines)
        self.assertEqual(mixes(prime, lines, columns), spanned)
        self.assertEqual(len(spanned), prime ** len(lines))
        self.same(rank(prime, table), len(lines))
        zeros = {value for value in product(range(prime), repeat=columns)
                 if not any(makes(prime, line, value) for line in table)}
        found = kernel(prime, table)
        self.assertTrue(is_echelon(found), found)
        self.assertEqual(mixes(prime, found, columns), zeros)
        # [2.6]
        self.same(len(lines) + len(found), columns)
        self.same(rank(prime, tuple(zip(*table))), len(lines))

    def check_goals(self, prime, table, goals):
        for goal in goals:
            value, bar = solved(prime, table, goal), bar_of(prime, table, goal)
            self.assertIs(value is None, bar is not None)
            if bar is None:
                self.same([makes(prime, line, value) for line in table], list(goal))
                self.assertIs(is_solved(prime, table, goal, value), True)
            else:
                self.assertFalse(any(makes(prime, column, bar) for column in zip(*table)))
                self.assertTrue(makes(prime, goal, bar))
                self.assertIs(is_bar(prime, table, goal, bar), True)
            self.assertIs(is_solved(prime, table, goal, None), False)
            self.assertIs(is_bar(prime, table, goal, None), False)

    def test_judges_of_all_values(self):
        for prime, table in ((2, ((1, 0, 1), (1, 1, 0), (0, 1, 1))), (3, ((1, 2, 0), (2, 1, 0))), (5, ((0, 0), (0, 3)))):
            for goal in product(range(prime), repeat=len(table)):
                for value in product(range(prime), repeat=len(table[0])):
                    wanted = all(makes(prime, line, value) == entry for line, entry in zip(table, goal))
                    self.assertIs(is_solved(prime, table, goal, value), wanted)
                for value in product(range(prime), repeat=len(table)):
                    zero = not any(makes(prime, column, value) for column in zip(*table))
                    self.assertIs(is_bar(prime, table, goal, value), zero and makes(prime, goal, value) != 0)

    def test_judges_refuse_other_values(self):
        for value in NO_PAIRS:
            self.assertIs(is_solved(3, PAIR, (0, 0), value), False)
            self.assertIs(is_bar(3, ((0, 0), (0, 0)), (1, 1), value), False)
        self.judges(is_solved, (3, PAIR, (0, 1)), ((1, 1),), ((True, 1), (1, True), [1, 1], (4, 1), (1, -2), (1, 1, 0)))
        self.judges(is_bar, (3, ((1, 1), (2, 2)), (1, 0)), ((1, 1), (2, 2)),
                    ((True, True), (1, True), [1, 1], (0, 0), (1, 0), (1, 1, 0), (4, 1)))
        self.judges(is_solved, (3, PAIR, (0, 0)), ((0, 0),), ((False, False), (0,), (0, 0, 0)))

    def test_edges(self):
        for prime in FEW_PRIMES:
            top = prime - 1
            self.same([rank(prime, ((0,),)), echelon(prime, ((0,),)), kernel(prime, ((0,),))], [0, (), ((1,),)])
            self.same([rank(prime, ((top,),)), echelon(prime, ((top,),)), kernel(prime, ((top,),))], [1, ((1,),), ()])
            column, line = ((top,),) * 400, ((top,) * 400,)
            self.same([rank(prime, column), echelon(prime, column), kernel(prime, column)], [1, ((1,),), ()])
            self.same([rank(prime, line), echelon(prime, line)], [1, ((1,) * 400,)])
            found = kernel(prime, line)
            self.same(len(found), 399)
            self.same(found[5], (0,) * 5 + (1,) + (0,) * 393 + (top,))
            self.same(solved(prime, column, (1,) * 400), (prime - 1 if prime > 2 else 1,))
            self.assertIs(is_bar(prime, column, (1,) * 399 + (0,), bar_of(prime, column, (1,) * 399 + (0,))), True)
            zero = ((0,) * 400,) * 400
            self.same([rank(prime, zero), echelon(prime, zero), solved(prime, zero, (0,) * 400)], [0, (), (0,) * 400])
            self.same(len(kernel(prime, zero)), 400)
            self.same(bar_of(prime, zero, (0,) * 400), None)

    def test_great_tables(self):
        for prime in (2, 31):
            top = prime - 1
            upper = tuple((0,) * at + (top,) * (400 - at) for at in range(400))
            self.same(rank(prime, upper), 400)
            self.same(echelon(prime, upper), tuple((0,) * at + (1,) + (0,) * (399 - at) for at in range(400)))
            self.same(kernel(prime, upper), ())
            goal = tuple(numbers_made(prime, 400, prime))
            value = solved(prime, upper, goal)
            self.same([makes(prime, line, value) for line in upper], list(goal))
            self.assertIs(is_solved(prime, upper, goal, value), True)
            self.same(bar_of(prime, upper, goal), None)

    def test_great_mixed_tables(self):
        for prime, size in ((2, 400), (3, 200), (31, 400)):
            made = numbers_made(7, size * size // 2, prime)
            half = [tuple(made[size * at:size * at + size]) for at in range(size // 2)]
            table = tuple(half) + tuple(half[::-1])
            lines, found = echelon(prime, table), kernel(prime, table)
            self.assertTrue(is_echelon(lines[:20]) and is_echelon(found[:20]))
            self.same((rank(prime, table), len(found)), (len(lines), size - len(lines)))
            self.assertFalse(any(makes(prime, line, value) for line in table[::20] for value in found[::10]))
            # The lines of the echelon are mixes of the table, and those of the table are mixes of the echelon.
            self.same(rank(prime, tuple(half) + lines), len(lines))
            firsts = [line.index(1) for line in lines]
            for line in half[::20]:
                mix = [makes(prime, [line[first] for first in firsts], column) for column in zip(*lines)]
                self.same(mix, list(line))
            goal = (1,) + (0,) * (size - 1)
            self.same(solved(prime, table, goal), None)
            self.assertIs(is_bar(prime, table, goal, bar_of(prime, table, goal)), True)

    def test_not_true(self):
        # [2.6]: lines that are no mixes of those ahead of them need not be the echelon; unlike tables with one kernel.
        table = ((2, 1), (0, 1))
        self.same(echelon(3, table), ((1, 0), (0, 1)))
        self.same(kernel(3, table), kernel(3, ((1, 0), (0, 1))))


class RefusingTest(PlainTest):

    def test_tables(self):
        for call in (rank, echelon, kernel):
            self.refuses_primes(call, PAIR)
            self.refuses_primes(call, None)
            self.refused(InvalidTable, call, (3, PAIR), 1, NO_TABLES)
            self.raised(InvalidTable, call, 2, ((2,),))

    def test_goals(self):
        for call in (solved, bar_of, lambda prime, table, goal: is_solved(prime, table, goal, (0, 0)),
                     lambda prime, table, goal: is_bar(prime, table, goal, (0, 0))):
            self.refuses_primes(call, PAIR, (0, 0))
            self.refuses_primes(call, None, None)
            self.refused(InvalidTable, call, (3, PAIR, (0, 0)), 1, NO_TABLES)
            self.refused(InvalidTable, call, (3, PAIR, (0, 0)), 2, NO_PAIRS)
            self.refused(InvalidTable, call, (3, ((1,), (1,)), (0, 0)), 2, ((1,), (1, 1, 1), [0, 0]))
            self.raised(InvalidPrime, call, 1, ((1,),), ())

    def test_arguments_stay(self):
        table = [((1, 2, 0), (2, 1, 1), (0, 0, 1)), (1, 0, 0)]
        rank(3, table[0]), echelon(3, table[0]), kernel(3, table[0]), solved(3, *table), bar_of(3, *table)
        self.same(table, [((1, 2, 0), (2, 1, 1), (0, 0, 1)), (1, 0, 0)])
        self.same(solved(3, *table), solved(3, *table))
