"""The ways of branches, and what changes of x and y, and polynomials in x and y, do along them."""

from touchtowers.base.numbers import (check_between, check_equal_primes, check_prime, is_between, is_letter,
                                      residue_inverse)
from touchtowers.base.rows import check_row, made_row
from touchtowers.base.series import composed_series, divided_series, least_power, multiplied_series, scaled_sum
from touchtowers.errors import InvalidOperation, InvalidPlane, InvalidPoint, InvalidRow, TooMany
from touchtowers.word.terms import products_of_terms, sums_of_terms, terms_blown_up, terms_turned
from touchtowers.word.words import TURN, Branch, check_branch, without_last_zeros

MAX_WAY = 400
MAX_LETTERS = 600
MAX_VALUE = 900

MAX_ASKED = 60
MAX_EXPONENT = 200
MAX_PAIRS = 1000


def way_degrees(word):
    """The degrees of both polynomials of a way, None for zero."""
    degrees = (1, None)
    for letter in reversed(word):
        first, second = degrees
        if second is None:
            # Only the last letter finds v zero: it makes v + a a residue, or u * v zero.
            degrees = (None, first) if letter == TURN else (first, first)
        else:
            degrees = (first + second, first) if letter == TURN else (first, first + second)
    return degrees


def way_degree(branch):
    """The degree of the way."""
    check_branch(branch)
    return max([degree for degree in way_degrees(branch.word) if degree is not None])


def check_way(branch):
    """Refuse all but branches with a way of a degree that is not too great."""
    if way_degree(branch) > MAX_WAY:
        raise TooMany(MAX_WAY)


def way_entries(branch):
    """The entries of both polynomials of the way."""
    u, v = [0, 1], []
    for letter in reversed(branch.word):
        if letter == TURN:
            u, v = multiplied_series(branch.prime, u, v), u
        else:
            v = multiplied_series(branch.prime, u, scaled_sum(branch.prime, v, letter, [1]))
    return u, v


def way_of(branch):
    """The way, a pair of rows."""
    check_way(branch)
    x, y = way_entries(branch)
    return made_row(branch.prime, x), made_row(branch.prime, y)


def least_order(x, y):
    """The lesser one of the orders of two series that are not both zero."""
    return min([order for order in (least_power(x), least_power(y)) if order is not None])


def next_letter(prime, u, v, size):
    """The letter of two led series, and the series that come in their place, below the power size."""
    order = least_order(u, v)
    if least_power(u) != order:
        return TURN, v[:size], divided_series(prime, u, v, size)
    quotient = divided_series(prime, v, u, size)
    return quotient[0], u[:size], [0] + quotient[1:]


def check_led(x, y, many):
    """Refuse rows that are not led, or of too great orders for so many letters."""
    check_equal_primes(x, y)
    if (x.degree < 0 and y.degree < 0) or x.order == 0 or y.order == 0:
        raise InvalidOperation("the rows are not led")
    if many * least_order(x.entries, y.entries) > MAX_LETTERS:
        raise TooMany(MAX_LETTERS)


def letters_of(x, y, many):
    """The first letters of two led rows."""
    check_row(x)
    check_row(y)
    check_between(many, 0, MAX_ASKED)
    check_led(x, y, many)
    u, v = list(x.entries), list(y.entries)
    letters = []
    for left in range(many - 1, -1, -1):
        # Each letter takes away so many powers as the lesser order tells, which never grows. So the letters that
        # are left need no powers above this one.
        size = left * least_order(u, v) + 1
        letter, u, v = next_letter(x.prime, u, v, size)
        letters.append(letter)
    return tuple(letters)


def led_way(branch, row):
    """The way with the row in the place of t."""
    check_branch(branch)
    check_row(row)
    if row.order is None or row.order == 0:
        raise InvalidRow("the order of the row is not at least 1")
    check_equal_primes(branch, row)
    if way_degree(branch) * row.degree > MAX_WAY:
        raise TooMany(MAX_WAY)
    x, y = [composed_series(branch.prime, part, row.entries, MAX_WAY + 1) for part in way_entries(branch)]
    return made_row(branch.prime, x), made_row(branch.prime, y)


def check_factor(prime, residue):
    """Refuse all but the residues other than 0."""
    check_between(residue, 1, prime - 1)


def stretched(branch, a, b):
    """The branch of the way (a x, b y)."""
    check_branch(branch)
    check_factor(branch.prime, a)
    check_factor(branch.prime, b)
    c, d = a, b
    letters = []
    for letter in branch.word:
        if letter == TURN:
            letters.append(TURN)
            c, d = d, c * residue_inverse(branch.prime, d) % branch.prime
        else:
            d = d * residue_inverse(branch.prime, c) % branch.prime
            letters.append(letter * d % branch.prime)
    return Branch(branch.prime, tuple(letters))


def bent(branch, index, residue):
    """The branch of the way (x, y + residue * x ** (index + 1))."""
    check_branch(branch)
    check_between(index, 0, MAX_ASKED - 1)
    check_between(residue, 0, branch.prime - 1)
    if TURN in branch.word[:index + 1]:
        raise InvalidOperation("a turn is among the first letters")
    letters = list(branch.word) + [0] * (index + 1 - len(branch))
    letters[index] = (letters[index] + residue) % branch.prime
    return Branch(branch.prime, without_last_zeros(tuple(letters)))


def exchanged(branch):
    """The branch of the way (y, x)."""
    check_branch(branch)
    first = branch.letter_at(0)
    if first > 0:
        raise InvalidOperation("the first letter is neither 0 nor the turn")
    letters = (0 if first == TURN else TURN,) + branch.word[1:]
    return Branch(branch.prime, without_last_zeros(letters))


def is_pair_of_exponents(value):
    """Whether the value is a pair of exponents that a polynomial can have."""
    if not isinstance(value, tuple) or len(value) != 2:
        return False
    return is_between(value[0], 0, MAX_EXPONENT) and is_between(value[1], 0, MAX_EXPONENT)


def are_terms(prime, value):
    """Whether the value is the table of a polynomial in x and y."""
    if not isinstance(value, dict) or len(value) > MAX_PAIRS:
        return False
    return all([is_pair_of_exponents(pair) and is_between(entry, 1, prime - 1) for pair, entry in value.items()])


class Plane:
    """A polynomial in x and y. It never changes."""

    def __init__(self, prime, table):
        check_prime(prime)
        if not are_terms(prime, table):
            raise InvalidPlane("not the table of a polynomial in x and y")
        self._prime = prime
        self._table = {pair: table[pair] for pair in sorted(table)}

    @property
    def prime(self):
        """The prime of the polynomial."""
        return self._prime

    @property
    def table(self):
        """The dict from its pairs of exponents to their entries, ascending."""
        return {pair: self._table[pair] for pair in self._table}

    @property
    def degree(self):
        """The greatest sum of exponents, -1 for zero."""
        return max([i + j for i, j in self._table], default=-1)

    @property
    def order(self):
        """The least sum of exponents, None for zero."""
        return min([i + j for i, j in self._table], default=None)

    def plus(self, other):
        """The sum of both."""
        check_plane(other)
        check_equal_primes(self, other)
        return made_plane(self._prime, sums_of_terms(self._table, 1, other._table))

    def minus(self, other):
        """This polynomial less the other one."""
        check_plane(other)
        check_equal_primes(self, other)
        return made_plane(self._prime, sums_of_terms(self._table, -1, other._table))

    def multiplied(self, other):
        """The product of both."""
        check_plane(other)
        check_equal_primes(self, other)
        return made_plane(self._prime, products_of_terms(self._table, other._table))

    def transformed(self, letter, weight):
        """What it becomes if the origin is blown up along a letter, divided by u to the weight."""
        if not is_letter(self._prime, letter):
            raise InvalidPoint("not a letter")
        check_between(weight, 0, MAX_EXPONENT if len(self._table) == 0 else self.order)
        if letter == TURN:
            return made_plane(self._prime, terms_turned(self._table, weight))
        return made_plane(self._prime, terms_blown_up(self._prime, self._table, letter, weight))

    def __len__(self):
        return len(self._table)

    def __eq__(self, other):
        return isinstance(other, Plane) and self._prime == other._prime and self._table == other._table


def made_plane(prime, sums):
    """The polynomial with integers as its entries, each of them modulo the prime."""
    table = {pair: sums[pair] % prime for pair in sums if sums[pair] % prime != 0}
    if any([max(pair) > MAX_EXPONENT for pair in table]):
        raise TooMany(MAX_EXPONENT)
    if len(table) > MAX_PAIRS:
        raise TooMany(MAX_PAIRS)
    return Plane(prime, table)


def check_plane(plane):
    """Refuse all but polynomials in x and y."""
    if not isinstance(plane, Plane):
        raise InvalidPlane("not a polynomial in x and y")


def value_entries(plane, x, y):
    """The entries of what comes if two polynomials in t are put in for x and y."""
    table = plane.table
    powers = [[1]]
    for _ in range(max([j for i, j in table], default=0)):
        powers.append(multiplied_series(plane.prime, powers[-1], y))
    # The series at each power of x, put together by Horner's rule.
    lines = {}
    for (i, j), entry in table.items():
        lines[i] = scaled_sum(plane.prime, lines.get(i, []), entry, powers[j])
    value = []
    for i in range(max(list(lines), default=-1), -1, -1):
        value = scaled_sum(plane.prime, multiplied_series(plane.prime, value, x), 1, lines.get(i, []))
    return value


def value_on(plane, branch):
    """The row that comes if the way of the branch is put in."""
    check_plane(plane)
    check_branch(branch)
    check_equal_primes(plane, branch)
    check_way(branch)
    if plane.degree * way_degree(branch) > MAX_VALUE:
        raise TooMany(MAX_VALUE)
    x, y = way_entries(branch)
    return made_row(branch.prime, value_entries(plane, x, y))


def order_on(plane, branch):
    """The order of the polynomial on the branch, None if it is zero there."""
    return value_on(plane, branch).order
