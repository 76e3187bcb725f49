"""[2.1] to [2.3] and touchtowers.base.rows."""

from itertools import product

from touchtowers.base import rows
from touchtowers.base.rows import Row
from touchtowers.errors import InvalidCount, InvalidOperation, InvalidPrime, InvalidRow, ParseError
from tests.helpers import CUSP, FEW_PRIMES, NO_INTEGERS, SIXTY, SIXTY_ONE, PlainTest, numbers_made

EXAMPLES = """
>>> one, other = Row(3, (0, 1, 2)), Row.read(3, "1+t")
>>> [one.order, one.degree, str(one), str(one.times(other)), str(one.quotient(other, 4)), str(other.composed(one, 3)), Row(3, ()).order]
[1, 2, 't+2t^2', 't+2t^3', 't+t^2+2t^3', '1+t+2t^2', None]
>>> [str(one.turned_back(4)), str(one.shifted(-1)), str(one.cut(2)), str(one.raised(2)), one.entry(7), str(one.minus(one))]
['t+t^2+2t^3', '1+2t', 't', 't^2+t^3+t^4', 0, '0']
>>> one.shifted(-2)
raises InvalidOperation
"""

ZERO, ONE, T = Row(3, ()), Row(3, (1,)), Row(3, (0, 1))
# No entries of rows over 3.
NO_ENTRIES = (None, True, 0, 1, "", "0", "1+t", [], [1], {}, {0: 1}, CUSP, T, (0,), (1, 0), (0, 0), (3,), (-1,),
              (1, 3, 1), (True,), (0, True), (False, 1), ("1",), (None,), ((),), ((1,),), ([1],), (SIXTY,),
              (SIXTY_ONE,), (1,) * 1001, (0,) * 1000 + (1,), (1,) * 4000)
NO_ROWS = tuple(value for value in NO_ENTRIES if value is not T) + ((0, 1), "t", (3, (0, 1)))
NO_TEXTS = ("", "+", "t+", "+t", "0+t", "t+0", "00", "1+0", "3", "1+3t", "-1", "-t", "01", "1t", "01t", "0t", "t^1",
            "t^0", "1t^2", "t^02", "t^", "t2", "t^-1", "2t^", "t^^2", "tt", "t+t", "t+1", "t^2+t", "1+1", "t^2t", "1 + t",
            " t", "t ", "t\n", "T", "x", "t^1000", "t^2+t^1000", "2*t", "t**2", "t^1_0", "^2", "2^2", "t^t",
            "t^" + "9" * 3990, "9" * 4000, "+" * 4000, None, True, 0, 1, (), (0, 1), ("t",), [], ["t"], {}, T, CUSP)


def naive_sum(prime, one, other, sign=1):
    size = max(len(one), len(other))
    one, other = list(one) + [0] * (size - len(one)), list(other) + [0] * (size - len(other))
    return stripped([(first + sign * second) % prime for first, second in zip(one, other)])


def naive_product(prime, one, other):
    result = [0] * (len(one) + len(other))
    for i, entry in enumerate(one):
        for j, factor in enumerate(other):
            result[i + j] += entry * factor
    return stripped([entry % prime for entry in result])


def naive_composed(prime, one, other, size):
    result, power = (), (1,)
    for entry in one:
        result = naive_sum(prime, result, naive_product(prime, (entry,), power))
        power = stripped(naive_product(prime, power, other)[:size])
    return stripped(result[:size])


def stripped(entries):
    entries = list(entries)
    while entries and entries[-1] == 0:
        entries.pop()
    return tuple(entries)


def naive_text(entries):
    terms = []
    for power, entry in enumerate(entries):
        if entry:
            sign = "" if power == 0 else "t" if power == 1 else "t^" + str(power)
            terms.append(sign if entry == 1 and power else str(entry) + sign)
    return "+".join(terms) or "0"


def some_rows(prime, many, size):
    """Rows of all sizes below this one, the same at each run."""
    made = numbers_made(prime * 1000 + many, many * size, prime)
    return [Row(prime, stripped(made[at * size:at * size + at % size])) for at in range(many)]


class RowTest(PlainTest):

    def test_examples(self):
        self.examples(EXAMPLES, vars(rows))

    def test_constants(self):
        self.same([rows.MAX_ENTRIES, rows.MAX_SIZE], [1000, 400])

    def test_made(self):
        for prime in FEW_PRIMES:
            for entries in ((), (1,), (0, 1), (prime - 1,), (0, 0, prime - 1), (1,) * 1000, (0,) * 999 + (1,)):
                row = Row(prime, entries)
                self.same((row.prime, row.entries, row.degree), (prime, entries, len(entries) - 1))
                self.same(row.order, min((at for at, entry in enumerate(entries) if entry), default=None))
                self.assertEqual(Row.read(prime, str(row)), row)
                self.same(str(row), naive_text(entries))

    def test_refuses(self):
        self.refuses_primes(Row, ())
        self.refuses_primes(Row, None)
        self.refused(InvalidRow, Row, (3, ()), 1, NO_ENTRIES)
        self.raised(InvalidRow, Row, 2, (2,))

    def test_texts(self):
        for prime, most in ((2, 5), (3, 4), (11, 2)):
            for entries in product(range(prime), repeat=most):
                entries = stripped(entries)
                row = Row.read(prime, naive_text(entries))
                self.same((row.entries, str(row)), (entries, naive_text(entries)))
        self.same(Row.read(31, "30+10t^9+t^99+2t^100+30t^999").entries,
                  (30,) + (0,) * 8 + (10,) + (0,) * 89 + (1, 2) + (0,) * 898 + (30,))
        self.same(Row.read(2, naive_text((1,) * 600)).entries, (1,) * 600)

    def test_texts_refuse(self):
        self.refuses_primes(Row.read, "t")
        self.refuses_primes(Row.read, None)
        for value in NO_TEXTS:
            self.raised(ParseError(0), Row.read, 3, value)
        self.raised(ParseError(0), Row.read, 2, "2t")
        self.raised(InvalidPrime, Row.read, True, "x")

    def test_never_changes(self):
        for name in ("prime", "entries", "degree", "order"):
            with self.assertRaises(AttributeError):
                setattr(T, name, 1)
        before = (T.entries, ONE.entries)
        T.plus(ONE), T.times(ONE), T.composed(T, 4), T.quotient(ONE, 3), T.shifted(2), T.turned_back(3)
        self.same((T.entries, ONE.entries), before)
        for call in (iter, list, len, lambda row: row[0], lambda row: 1 in row):
            self.raised(TypeError, call, T)

    def test_equal(self):
        found = [Row(prime, stripped(entries)) for prime in (2, 3) for entries in product(range(2), repeat=3)]
        for at, one in enumerate(found):
            for other_at, other in enumerate(found):
                self.assertIs(one == other, at == other_at)
                self.assertIs(one != other, at != other_at)
        for value in NO_ROWS:
            self.assertIs(T == value, False)
            self.assertIs(T != value, True)

    def test_entry(self):
        row = Row(5, (4, 0, 3))
        self.same([row.entry(power) for power in (0, 1, 2, 3, 1000, SIXTY)], [4, 0, 3, 0, 0, 0])
        self.same(ZERO.entry(0), 0)
        self.refused(InvalidCount, row.entry, (0,), 0, NO_INTEGERS + (-1, -3, -SIXTY))

    def test_sums_and_products(self):
        for prime in FEW_PRIMES:
            found = some_rows(prime, 12, 9) + [Row(prime, (prime - 1,) * 30)]
            for one in found:
                for other in found:
                    self.check_pair(prime, one, other)

    def check_pair(self, prime, one, other):
        first, second = one.entries, other.entries
        self.same(one.plus(other).entries, naive_sum(prime, first, second))
        self.same(one.minus(other).entries, naive_sum(prime, first, second, -1))
        result = one.times(other)
        self.same((result.prime, result.entries), (prime, naive_product(prime, first, second)))
        # [2.3]
        if one.order is not None and other.order is not None:
            self.same(result.order, one.order + other.order)
            total = one.plus(other)
            if total.order is not None:
                self.assertGreaterEqual(total.order, min(one.order, other.order))
            if one.order != other.order:
                self.same(total.order, min(one.order, other.order))

    def test_long_results(self):
        for prime in (2, 31):
            long = Row(prime, (prime - 1,) * 1000)
            wanted = tuple(min(at + 1, 1999 - at) % prime for at in range(1999))
            self.same(long.times(long).entries, stripped(wanted))
            self.assertEqual(long.times(long).times(long), long.raised(3))
            self.same(long.shifted(400).degree, 1399)
            self.same(long.times(long).entry(1998), 1)

    def test_scaled(self):
        for prime in FEW_PRIMES:
            for row in some_rows(prime, 6, 5):
                for residue in range(prime):
                    self.same(row.scaled(residue).entries, naive_product(prime, row.entries, (residue,)))
        self.refused(InvalidOperation, T.scaled, (1,), 0, NO_INTEGERS + (-1, 3, SIXTY))

    def test_raised(self):
        for prime in FEW_PRIMES:
            for row in some_rows(prime, 5, 5):
                wanted = (1,)
                for many in range(8):
                    self.same(row.raised(many).entries, wanted)
                    wanted = naive_product(prime, wanted, row.entries)
            self.same(Row(prime, (0, 1)).raised(400).entries, (0,) * 400 + (1,))
            self.same(Row(prime, ()).raised(0).entries, (1,))
            self.same(Row(prime, ()).raised(400).entries, ())
        # Modulo p, the p-th power of a sum is the sum of the p-th powers.
        self.same(str(Row(2, (1, 1)).raised(256)), "1+t^256")
        self.same(str(Row(7, (3, 1)).raised(343)), "3+t^343")
        self.refused(InvalidCount, T.raised, (1,), 0, NO_INTEGERS + (-1, 401, SIXTY, -SIXTY))

    def test_shifted_and_cut(self):
        row = Row(5, (0, 0, 3, 1))
        for many in (0, 1, 2, 399, 400):
            self.same(row.shifted(many).entries, (0,) * many + row.entries)
            self.assertEqual(row.shifted(many).shifted(-many), row)
            self.same(row.cut(many).entries, stripped(row.entries[:many]))
            self.same(ZERO.shifted(many).entries, ())
            self.same(ZERO.shifted(-many).entries, ())
            self.same(ZERO.cut(many).entries, ())
        self.same([row.shifted(-2).entries, row.shifted(-1).entries, row.cut(3).entries], [(3, 1), (0, 3, 1), (0, 0, 3)])
        for many in (-3, -4, -400):
            self.raised(InvalidOperation, row.shifted, many)
        self.raised(InvalidOperation, ONE.shifted, -1)
        self.refused(InvalidCount, row.shifted, (1,), 0, NO_INTEGERS + (-401, 401, SIXTY, -SIXTY))
        self.refused(InvalidCount, row.cut, (1,), 0, NO_INTEGERS + (-1, 401, SIXTY, -SIXTY))

    def test_composed(self):
        for prime in FEW_PRIMES:
            found = some_rows(prime, 8, 7)
            for one in found:
                for other in found:
                    other = other.shifted(1)
                    for size in (0, 1, 2, 5, 40):
                        wanted = naive_composed(prime, one.entries, other.entries, size)
                        self.same(one.composed(other, size).entries, wanted)
        long = Row(3, (1,) * 1000)
        self.assertEqual(long.composed(T, 400), long.cut(400))
        self.assertEqual(long.composed(ZERO, 400), ONE)
        self.assertEqual(long.composed(Row(3, (0, 1, 1)), 400), long.composed(Row(3, (0, 1, 1)), 400).cut(400))

    def test_quotient(self):
        for prime in FEW_PRIMES:
            found = some_rows(prime, 9, 7)
            for other in found:
                if other.order is None:
                    continue
                for one in found:
                    one = one.shifted(other.order)
                    for size in (0, 1, 3, 12, 400):
                        self.check_quotient(one, other, size)
        long, divisor = Row(31, (1,) * 1000), Row(31, tuple(range(1, 31)) * 30)
        self.check_quotient(long, divisor, 400)
        self.assertEqual(long.times(divisor).quotient(divisor, 400), long.cut(400))

    def check_quotient(self, one, other, size):
        quotient = one.quotient(other, size)
        self.assertLess(quotient.degree, max(size, 1))
        below = size + other.order
        back = quotient.times(other)
        self.same([back.entry(power) for power in range(below)], [one.entry(power) for power in range(below)])

    def test_turned_back(self):
        for prime in FEW_PRIMES:
            for row in some_rows(prime, 9, 7):
                row = Row(prime, (0, prime - 1) + row.entries)
                for size in (0, 1, 2, 3, 20):
                    back = row.turned_back(size)
                    self.assertLess(back.degree, max(size, 1))
                    self.assertEqual(back.composed(row, size), Row(prime, (0, 1)).cut(size))
        long = Row(31, (0,) + tuple(range(1, 31)) * 33)
        self.assertEqual(long.turned_back(400).composed(long, 400), Row(31, (0, 1)))
        self.refused(InvalidCount, T.turned_back, (1,), 0, NO_INTEGERS + (-1, 401, SIXTY, -SIXTY))
        for row in (ZERO, ONE, Row(3, (1, 1)), Row(3, (0, 0, 1))):
            self.raised(InvalidOperation, row.turned_back, 4)
            self.raised(InvalidCount(True), row.turned_back, True)

    def test_cut_in_any_order(self):
        for prime in (2, 5):
            for one in some_rows(prime, 6, 9):
                for other in some_rows(prime, 5, 7):
                    for size in (0, 1, 4, 6):
                        short, second = one.cut(size), other.cut(size)
                        self.assertEqual(short.plus(second).cut(size), one.plus(other).cut(size))
                        self.assertEqual(short.times(second).cut(size), one.times(other).cut(size))
                        self.assertEqual(short.composed(second.shifted(1), size), one.composed(other.shifted(1), size))

    def test_two_rows_refuse(self):
        for call in (T.plus, T.minus, T.times, lambda other: T.composed(other, 4), lambda other: T.quotient(other, 4)):
            self.refused(InvalidRow, call, (T,), 0, NO_ROWS)
            self.raised(InvalidOperation, call, Row(2, (0, 1)))
        for call in (T.composed, T.quotient):
            self.refused(InvalidCount, call, (T, 4), 1, NO_INTEGERS + (-1, 401, SIXTY, -SIXTY))
            # The row is wrong first; the primes and the orders are asked for last.
            self.refused(InvalidRow, call, (T, True), 0, NO_ROWS)
            self.raised(InvalidCount(401), call, Row(2, (0, 1)), 401)
        self.raised(InvalidCount(-1), T.composed, ONE, -1)
        self.raised(InvalidCount(-1), T.quotient, ZERO, -1)
        self.raised(InvalidOperation, T.composed, ONE, 4)
        self.raised(InvalidOperation, T.composed, Row(3, (2, 1)), 0)
        self.raised(InvalidOperation, T.quotient, ZERO, 4)
        self.raised(InvalidOperation, ZERO.quotient, ZERO, 4)
        self.raised(InvalidOperation, ONE.quotient, T, 4)
        self.raised(InvalidOperation, T.quotient, Row(3, (0, 0, 1)), 0)
        self.same(ZERO.quotient(Row(3, (0, 0, 1)), 4).entries, ())
