"""[4.1] to [4.4], [4.6], and the ways and changes of touchtowers.word.ways."""

from touchtowers.base.rows import Row
from touchtowers.errors import InvalidCount, InvalidOperation, InvalidRow, InvalidWord, TooMany
from touchtowers.word import ways
from touchtowers.word.ways import (Plane, bent, exchanged, led_way, letters_of, stretched, way_degree, way_of)
from touchtowers.word.words import Branch
from tests.helpers import (BOW, CUSP, DEEP, FEW_PRIMES, FOUR, HOOK, LINE, NO_INTEGERS, SIDE, SIXTY, STEEP, TALL, WILD,
                           PlainTest, small_branches)
from tests.test_rows import naive_composed, naive_product, naive_sum, some_rows, stripped

EXAMPLES = """
>>> [str(row) for row in way_of(Branch(3, (0, -1, 1)))], way_degree(Branch(3, (0, -1, 1, -1, 1)))
(['t^2', 't^3'], 7)
>>> T, SQUARE = Row(3, (0, 1)), Row(3, (0, 0, 1))
>>> [letters_of(T, SQUARE, 4), letters_of(Row(3, (0, 0, 1)), Row(3, (0, 0, 0, 1)), 5), letters_of(Row(3, ()), T, 3), letters_of(Row(3, (0, 1, 1)), T, 4)]
[(0, 1, 0, 0), (0, -1, 1, 0, 0), (-1, 0, 0), (1, 2, 2, 1)]
>>> [stretched(Branch(3, (0, -1, 1)), 1, 2).word, bent(Branch(3, (0, -1, 1)), 0, 2).word, exchanged(Branch(3, (0, -1, 1))).word, bent(Branch(3, ()), 1, 1).word]
[(0, -1, 1), (2, -1, 1), (-1, -1, 1), (0, 1)]
>>> plane = Plane(3, {(0, 2): 1, (3, 0): 2})
>>> [plane.degree, plane.order, order_on(plane, Branch(3, ())), order_on(plane, Branch(3, (0, -1, 1))), order_on(plane, Branch(3, (1, 1))), plane.transformed(0, 2).table]
[3, 2, 3, None, 2, {(0, 2): 1, (1, 0): 2}]
>>> exchanged(Branch(3, (1, 1)))
raises InvalidOperation
"""
# The ways that the section "Examples" tells.
TOLD_WAYS = ((LINE, "t", "0"), (SIDE, "0", "t"), (BOW, "t", "t+t^2"), (CUSP, "t^2", "t^3"), (HOOK, "2t^2", "2t^3"),
             (FOUR, "t^4+t^5", "t^6+t^7"), (TALL, "t^3", "t^7"), (STEEP, "t^3", "t^2"), (WILD, "t^2", "t^3"))

OF_399 = (-1, -1, -1, -1, 0, 0, -1, -1, 0, 0, -1, 0, 0, -1, 1)
OF_400 = (-1, -1, -1, -1, 0, -1, -1, -1, 0, -1, 0, -1, 0, 1)
OF_401 = (-1, -1, -1, -1, -1, 0, -1, 0, -1, -1, 0, -1, 0, 1)
ZERO, ONE, T, SQUARE = Row(3, ()), Row(3, (1,)), Row(3, (0, 1)), Row(3, (0, 0, 1))
NO_BRANCHES = NO_INTEGERS[:8] + (0, 1, SIXTY, "0 t 1", (0, -1, 1), [0, -1, 1], {0: 1}, (3, (0, -1, 1)), T, ONE,
                                 Plane(3, {}), InvalidWord("a message"))
NO_ROWS = (None, True, 0, "t", "", (), (0, 1), [0, 1], {1: 1}, CUSP, Plane(3, {(1, 0): 1}), (3, (0, 1)))


def some_branches(prime, most):
    return small_branches(prime, most) + [Branch(prime, (0,) * 58 + (-1, 1)), Branch(prime, (1, 0) * 20 + (1,)),
                                          Branch(prime, (0, -1, 0, -1, prime - 1, -1, 0, 1))]


def naive_way(branch):
    """[4.1], word by word."""
    prime = branch.prime
    u, v = (0, 1), ()
    for letter in branch.word[::-1]:
        if letter == -1:
            u, v = naive_product(prime, u, v), u
        else:
            v = naive_product(prime, u, naive_sum(prime, v, stripped((letter,))))
    return u, v


def naive_letters(prime, x, y, many):
    """[4.2], word by word, with power series of more entries than are needed."""
    size = (many + 2) * min(at for part in (x, y) for at, entry in enumerate(part) if entry) + 30
    u, v = [(list(part) + [0] * size)[:size] for part in (x, y)]
    letters = []
    for _ in range(many):
        first = next((at for at, entry in enumerate(u) if entry), size)
        second = next((at for at, entry in enumerate(v) if entry), size)
        if second < first:
            letters.append(-1)
            u, v = v, naive_quotient(prime, u, v, second)
        else:
            v = naive_quotient(prime, v, u, first)
            letters.append(v[0])
            v[0] = 0
    return tuple(letters)


def naive_quotient(prime, one, other, order):
    rest = list(one[order:])
    result = []
    inverse = next(number for number in range(1, prime) if number * other[order] % prime == 1)
    pairs = [(at, entry) for at, entry in enumerate(other[order:]) if entry]
    for at in range(len(rest)):
        entry = rest[at] * inverse % prime
        result.append(entry)
        if entry:
            for place, factor in pairs:
                if at + place >= len(rest):
                    break
                rest[at + place] = (rest[at + place] - entry * factor) % prime
    return result


class WaysTest(PlainTest):

    def test_examples(self):
        self.examples(EXAMPLES, dict(vars(ways), Row=Row, Branch=Branch))

    def test_constants(self):
        self.same([ways.MAX_WAY, ways.MAX_LETTERS, ways.MAX_VALUE], [400, 600, 900])

    def test_told_ways(self):
        for branch, x, y in TOLD_WAYS:
            self.same([str(row) for row in way_of(branch)], [x, y])

    def test_ways(self):
        for prime in FEW_PRIMES:
            for branch in some_branches(prime, {2: 5, 3: 4, 5: 3, 31: 1}[prime]):
                x, y = way_of(branch)
                self.same((x.prime, y.prime, x.entries, y.entries), (prime, prime, *naive_way(branch)))
                self.same(way_degree(branch), max(x.degree, y.degree))
                # [4.3]
                many = min(60, 600 // min(row.order for row in (x, y) if row.order is not None))
                letters = letters_of(x, y, many)
                self.same(letters, (branch.word + (0,) * 60)[:many])

    def test_no_two_branches_have_one_way(self):
        found = [tuple(row.entries for row in way_of(branch)) for branch in small_branches(3, 4)]
        self.assertEqual(len(set(found)), len(found))

    def test_degrees(self):
        for word, degree in ((OF_399, 399), (OF_400, 400), (OF_401, 401), ((), 1), ((-1,), 1), ((0,) * 59 + (1,), 60)):
            self.same(way_degree(Branch(5, word)), degree)
        for word in ((), (-1,), OF_399, OF_400):
            self.same([row.entries for row in way_of(Branch(5, word))], list(naive_way(Branch(5, word))))
        self.raised(TooMany(400), way_of, Branch(5, OF_401))
        # Each turn leads from the degrees (o, q) to (o + q, o): they are numbers of Fibonacci.
        numbers = [1, 1]
        while len(numbers) < 70:
            numbers.append(numbers[-1] + numbers[-2])
        for turns in (1, 2, 10, 59):
            self.same(way_degree(Branch(2, (-1,) * turns + (1,))), numbers[turns + 1])
        self.raised(TooMany(400), way_of, Branch(2, (-1,) * 59 + (1,)))

    def test_ways_refuse(self):
        for call in (way_of, way_degree):
            self.refused(InvalidWord, call, (CUSP,), 0, NO_BRANCHES)


class LettersTest(PlainTest):

    def test_some_rows(self):
        for prime in FEW_PRIMES:
            found = [row.shifted(at % 4 + 1) for at, row in enumerate(some_rows(prime, 9, 9))]
            for x in found:
                for y in found:
                    if x.order is None and y.order is None:
                        continue
                    many = min(12, 600 // min(row.order for row in (x, y) if row.order is not None))
                    wanted = naive_letters(prime, x.entries, y.entries, many)
                    self.same(letters_of(x, y, many), wanted)
                    self.same(letters_of(x, y, 5), wanted[:5])

    def test_at_the_limit(self):
        for order, many in ((10, 60), (20, 30), (600, 1), (300, 2), (12, 50), (7, 60), (9, 60)):
            x = Row(5, (0,) * order + (2, 3, 0, 1, 4, 4, 1))
            y = Row(5, (0,) * (order + 3) + (1, 1, 2, 3, 0, 2))
            self.same(letters_of(x, y, many), naive_letters(5, x.entries, y.entries, many))
            self.same(letters_of(y, x, many), naive_letters(5, y.entries, x.entries, many))
            if order * (many + 1) > 600 and many < 60:
                self.raised(TooMany(600), letters_of, x, y, many + 1)
                self.raised(TooMany(600), letters_of, Row(5, ()), x, many + 1)
                self.raised(TooMany(600), letters_of, y, x, many + 1)
        x = Row(5, (0,) * 11 + (1,))
        self.raised(TooMany(600), letters_of, x, x, 60)
        self.same(letters_of(x, x, 54), (1,) + (0,) * 53)
        # The lesser order counts alone.
        self.same(letters_of(x, Row(5, (0, 1)), 60), (-1,) + (0,) * 9 + (1,) + (0,) * 49)

    def test_none(self):
        self.same(letters_of(T, T, 0), ())
        self.same(letters_of(Row(3, (0,) * 900 + (1,)), ZERO, 0), ())

    def test_letters_without_end(self):
        # [4.3]: letters of led polynomials need not end in letters 0.
        self.assertTrue(any(letters_of(Row(3, (0, 1, 1)), T, 60)[30:]))

    def test_led_ways_keep_letters(self):
        for prime in (2, 3, 5):
            for branch in small_branches(prime, 3):
                for row in some_rows(prime, 6, 6):
                    row = row.shifted(1)
                    if row.order is None:
                        continue
                    x, y = led_way(branch, row)
                    wanted = [naive_composed(prime, part, row.entries, 401) for part in naive_way(branch)]
                    self.same([x.entries, y.entries], wanted)
                    self.same(letters_of(x, y, 6), (branch.word + (0,) * 6)[:6])

    def test_letters_refuse(self):
        self.refused(InvalidRow, letters_of, (T, SQUARE, 4), 0, NO_ROWS)
        self.refused(InvalidRow, letters_of, (T, SQUARE, 4), 1, NO_ROWS)
        self.refused(InvalidRow, letters_of, (T, SQUARE, None), 1, NO_ROWS)
        self.refused(InvalidCount, letters_of, (T, SQUARE, 4), 2, NO_INTEGERS + (-1, 61, SIXTY, -SIXTY))
        self.raised(InvalidRow, letters_of, None, None, None)
        # The last errors come behind those of the numbers.
        for x, y in ((ZERO, ZERO), (ONE, T), (T, ONE), (ONE, ZERO), (ZERO, Row(3, (2, 1))), (T, Row(2, (0, 1)))):
            self.raised(InvalidOperation, letters_of, x, y, 4)
            self.raised(InvalidOperation, letters_of, x, y, 0)
            self.raised(InvalidCount(61), letters_of, x, y, 61)
        self.raised(InvalidOperation, letters_of, Row(3, (1,)), Row(3, (0,) * 700 + (1,)), 60)

    def test_led_way_limit(self):
        row = Row(5, (0,) * 200 + (1,))
        cusp = Branch(5, (1, 1))
        self.same([part.entries for part in led_way(cusp, row)],
                  [(0,) * 200 + (1,), (0,) * 200 + (1,) + (0,) * 199 + (1,)])
        self.same([part.degree for part in led_way(Branch(5, OF_400), Row(5, (0, 1)))],
                  [part.degree for part in way_of(Branch(5, OF_400))])
        self.raised(TooMany(400), led_way, cusp, Row(5, (0,) * 200 + (0, 1)))
        self.raised(TooMany(400), led_way, Branch(5, ()), Row(5, (0, 1) + (0,) * 399 + (1,)))
        self.raised(TooMany(400), led_way, Branch(5, OF_401), Row(5, (0, 1)))
        self.same(led_way(SIDE, T)[0].entries, ())

    def test_led_way_refuses(self):
        self.refused(InvalidWord, led_way, (CUSP, T), 0, NO_BRANCHES)
        self.refused(InvalidRow, led_way, (CUSP, T), 1, NO_ROWS + (ZERO, ONE, Row(3, (2, 1)), Row(2, (1, 1))))
        self.refused(InvalidWord, led_way, (CUSP, None), 0, NO_BRANCHES)
        self.raised(InvalidOperation, led_way, CUSP, Row(2, (0, 1)))
        self.raised(InvalidOperation, led_way, Branch(5, OF_401), T)


class ChangesTest(PlainTest):

    def test_stretched(self):
        for prime in (2, 3, 5, 7):
            for branch in small_branches(prime, {2: 5, 3: 4, 5: 2, 7: 2}[prime]):
                x, y = way_of(branch)
                for a in range(1, prime):
                    for b in range(1, prime):
                        letters = letters_of(x.scaled(a), y.scaled(b), 8)
                        self.same((stretched(branch, a, b).word + (0,) * 8)[:8], letters)
                        self.same(stretched(branch, a, b).prime, prime)

    def test_bent(self):
        for prime in (2, 3, 5):
            for branch in small_branches(prime, 3):
                x, y = way_of(branch)
                for index in range(5):
                    for residue in range(prime):
                        letters = letters_of(x, y.plus(x.raised(index + 1).scaled(residue)), 8)
                        if -1 in branch.word[:index + 1]:
                            self.raised(InvalidOperation, bent, branch, index, residue)
                        else:
                            self.same((bent(branch, index, residue).word + (0,) * 8)[:8], letters)
        self.same(bent(LINE, 59, 2).word, (0,) * 59 + (2,))
        self.same(bent(bent(LINE, 59, 2), 59, 1).word, ())
        self.same(bent(Branch(3, (1, 0, 0, 2)), 3, 1).word, (1,))
        self.assertEqual(bent(CUSP, 0, 0), CUSP)

    def test_exchanged(self):
        for prime in (2, 3, 5):
            for branch in small_branches(prime, 4 if prime < 5 else 3):
                x, y = way_of(branch)
                if branch.letter_at(0) > 0:
                    self.raised(InvalidOperation, exchanged, branch)
                else:
                    self.same((exchanged(branch).word + (0,) * 8)[:8], letters_of(y, x, 8))
                    self.assertEqual(exchanged(exchanged(branch)), branch)
        self.same([exchanged(LINE).word, exchanged(SIDE).word], [(-1,), ()])
        self.same(exchanged(Branch(3, (0,) * 59 + (1,))).word, (-1,) + (0,) * 58 + (1,))

    def test_long_words(self):
        word = (1, -1) * 29 + (1, 4)
        branch = Branch(5, word)
        self.same(bent(branch, 0, 3).word, (4,) + word[1:])
        self.assertEqual(stretched(branch, 1, 1), branch)
        self.assertEqual(stretched(stretched(branch, 2, 3), 3, 2), branch)

    def test_changes_refuse(self):
        wrong = NO_INTEGERS + (-1, SIXTY, -SIXTY)
        for call in (lambda branch: stretched(branch, 1, 1), lambda branch: stretched(branch, 0, 0),
                     lambda branch: bent(branch, 0, 1), lambda branch: bent(branch, None, None), exchanged):
            self.refused(InvalidWord, call, (CUSP,), 0, NO_BRANCHES)
        for place in (1, 2):
            self.refused(InvalidCount, stretched, (CUSP, 1, 1), place, wrong + (0, 3))
            self.refused(InvalidCount, stretched, (LINE, 1, 1), place, wrong + (0, 3))
        self.refused(InvalidCount, stretched, (CUSP, 0, 0), 1, wrong + (0, 3))
        self.refused(InvalidCount, bent, (LINE, 0, 1), 1, wrong + (60,))
        self.refused(InvalidCount, bent, (LINE, 0, 1), 2, wrong + (3,))
        self.refused(InvalidCount, bent, (LINE, 0, 3), 1, wrong + (60,))
        # A turn is asked for last.
        self.refused(InvalidCount, bent, (SIDE, 0, 1), 2, wrong + (3,))
        self.raised(InvalidOperation, bent, SIDE, 0, 0)
        self.raised(InvalidOperation, bent, CUSP, 1, 1)
        self.raised(InvalidOperation, bent, DEEP, 59, 1)

    def test_not_true(self):
        # [4.6]: the way of a word may have rows with a common factor besides t.
        x, y = way_of(FOUR)
        self.assertEqual([row.quotient(Row(3, (1, 1)), 9).times(Row(3, (1, 1))) for row in (x, y)], [x, y])
