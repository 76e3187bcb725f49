"""Rows: polynomials in t modulo a prime."""

from touchtowers.base.numbers import (are_residues, check_between, check_equal_primes, check_prime, is_integer,
                                      is_residue)
from touchtowers.base.series import (composed_series, divided_series, least_power, multiplied_series, powered_series,
                                     scaled_sum, trimmed, turned_back_series)
from touchtowers.errors import InvalidCount, InvalidOperation, InvalidRow, ParseError

MAX_ENTRIES = 1000
MAX_SIZE = 400


def are_entries(prime, value):
    """Whether the value is a tuple of residues without a 0 at its end, not too long."""
    if not isinstance(value, tuple) or len(value) > MAX_ENTRIES:
        return False
    return are_residues(prime, value) and (len(value) == 0 or value[-1] != 0)


def term_text(entry, power):
    """The text of one term with an entry other than 0."""
    if power == 0:
        return str(entry)
    factor = "" if entry == 1 else str(entry)
    return f"{factor}t" if power == 1 else f"{factor}t^{power}"


def text_of_entries(entries):
    """The text of a row."""
    terms = [term_text(entry, power) for power, entry in enumerate(entries) if entry != 0]
    return "+".join(terms) if len(terms) > 0 else "0"


def power_of_text(text):
    """The power that seems to stand behind t in a term, None if it is none of a row."""
    if text == "":
        return 1
    digits = text.removeprefix("^")
    if len(digits) > 3 or not digits.isdecimal():
        return None
    return int(digits)


def entries_of_text(prime, text):
    """The entries of the row with a text, None if there is none."""
    if not isinstance(text, str):
        return None
    residues = {str(residue): residue for residue in range(prime)}
    residues[""] = 1
    entries = [0] * MAX_ENTRIES
    for term in text.split("+"):
        factor, sign, rest = term.partition("t")
        power = power_of_text(rest) if sign == "t" else 0
        if power is None or factor not in residues:
            return None
        entries[power] = residues[factor]
    entries = trimmed(entries)
    # More has been let so far than texts of rows, but just one of all that make these entries is their text.
    return entries if text_of_entries(entries) == text else None


class Row:
    """A polynomial in t. It never changes."""

    def __init__(self, prime, entries):
        check_prime(prime)
        if not are_entries(prime, entries):
            raise InvalidRow("not the entries of a row")
        self._prime = prime
        self._entries = entries

    @classmethod
    def read(cls, prime, text):
        """The row with a text."""
        check_prime(prime)
        entries = entries_of_text(prime, text)
        if entries is None:
            raise ParseError(0)
        return cls(prime, entries)

    @property
    def prime(self):
        """The prime of the row."""
        return self._prime

    @property
    def entries(self):
        """The tuple of its entries."""
        return self._entries

    @property
    def degree(self):
        """The number of the entries less 1."""
        return len(self._entries) - 1

    @property
    def order(self):
        """The least index of an entry other than 0, None for zero."""
        return least_power(self._entries)

    def entry(self, power):
        """The entry of a power, 0 beyond the degree."""
        if not is_integer(power) or power < 0:
            raise InvalidCount(power)
        return self._entries[power] if power < len(self._entries) else 0

    def plus(self, other):
        """The sum of both."""
        check_row(other)
        check_equal_primes(self, other)
        return made_row(self._prime, scaled_sum(self._prime, self._entries, 1, other.entries))

    def minus(self, other):
        """This row less the other one."""
        check_row(other)
        check_equal_primes(self, other)
        return made_row(self._prime, scaled_sum(self._prime, self._entries, self._prime - 1, other.entries))

    def times(self, other):
        """The product of both."""
        check_row(other)
        check_equal_primes(self, other)
        return made_row(self._prime, multiplied_series(self._prime, self._entries, other.entries))

    def scaled(self, residue):
        """The row multiplied by a residue."""
        if not is_residue(self._prime, residue):
            raise InvalidOperation("not a residue")
        return made_row(self._prime, scaled_sum(self._prime, (), residue, self._entries))

    def raised(self, many):
        """The power of the row with an exponent."""
        check_between(many, 0, MAX_SIZE)
        return made_row(self._prime, powered_series(self._prime, self._entries, many))

    def shifted(self, many):
        """The row multiplied by t to a power, perhaps below 0."""
        check_between(many, -MAX_SIZE, MAX_SIZE)
        order = least_power(self._entries)
        if order is not None and order < -many:
            raise InvalidOperation("the order is too low to divide so often")
        return made_row(self._prime, (0,) * many + self._entries[max(0, -many):])

    def cut(self, size):
        """The row without all terms of the power size and above."""
        check_between(size, 0, MAX_SIZE)
        return made_row(self._prime, self._entries[:size])

    def composed(self, other, size):
        """The row with another one in the place of t, cut at a size."""
        check_row(other)
        check_between(size, 0, MAX_SIZE)
        check_equal_primes(self, other)
        if other.order == 0:
            raise InvalidOperation("the order of the row that is put in is 0")
        return made_row(self._prime, composed_series(self._prime, self._entries, other.entries, size))

    def quotient(self, other, size):
        """The first entries of this row, divided by another one."""
        check_row(other)
        check_between(size, 0, MAX_SIZE)
        check_equal_primes(self, other)
        order = least_power(self._entries)
        if other.order is None or (order is not None and order < other.order):
            raise InvalidOperation("the quotient is no row")
        return made_row(self._prime, divided_series(self._prime, self._entries, other.entries, size))

    def turned_back(self, size):
        """The row that makes t, cut at a size, if this one is put in."""
        check_between(size, 0, MAX_SIZE)
        if least_power(self._entries) != 1:
            raise InvalidOperation("the order is not 1")
        return made_row(self._prime, turned_back_series(self._prime, self._entries, size))

    def __eq__(self, other):
        return isinstance(other, Row) and self._prime == other._prime and self._entries == other._entries

    def __str__(self):
        return str(text_of_entries(self._entries))


def made_row(prime, entries):
    """The row with residues as its entries, however many, perhaps with zeros at the end."""
    made = Row(prime, ())
    # Results may be longer than what can be passed.
    made._entries = trimmed(entries)
    return made


def check_row(row):
    """Refuse all but rows."""
    if not isinstance(row, Row):
        raise InvalidRow("not a row")
