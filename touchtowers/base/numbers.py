"""Integers, primes, residues, letters and names."""

from math import gcd

from touchtowers.errors import InvalidCount, InvalidOperation, InvalidPrime

PRIMES = (2, 3, 5, 7, 11, 13, 17, 19, 23, 29, 31)
MAX_NAME = 8

NAME_LETTERS = "abcdefghijklmnopqrstuvwxyz"


def is_integer(value):
    """Whether the value is an integer of at most sixty digits."""
    return is_whole(value) and abs(value) < 10 ** 60


def is_whole(value):
    """Whether the value is an integer, however long."""
    # True and False are values of int, too.
    return isinstance(value, int) and not isinstance(value, bool)


def are_whole(value):
    """Whether the value is a tuple of integers, however long."""
    return isinstance(value, tuple) and all([is_whole(entry) for entry in value])


def is_between(value, least, most):
    """Whether the value is an integer within these bounds, both included."""
    return is_integer(value) and least <= value <= most


def check_between(value, least, most):
    """Refuse all but integers within these bounds."""
    if not is_between(value, least, most):
        raise InvalidCount(value)


def is_prime(value):
    """Whether the value is one of the primes."""
    return is_integer(value) and value in PRIMES


def check_prime(prime):
    """Refuse all but the primes."""
    if not is_prime(prime):
        raise InvalidPrime("not one of the primes from 2 to 31")


def check_equal_primes(one, other):
    """Refuse two objects over unlike primes."""
    if one.prime != other.prime:
        raise InvalidOperation("the primes are not equal")


def is_residue(prime, value):
    """Whether the value is a residue of the prime."""
    check_prime(prime)
    return is_between(value, 0, prime - 1)


def is_letter(prime, value):
    """Whether the value is a residue of the prime, or the turn."""
    check_prime(prime)
    return is_between(value, -1, prime - 1)


def are_residues(prime, value):
    """Whether the value is a tuple of residues of a valid prime."""
    return isinstance(value, tuple) and all([is_between(entry, 0, prime - 1) for entry in value])


def is_name(value):
    """Whether the value is a string of one to eight letters a to z."""
    if not isinstance(value, str) or not 1 <= len(value) <= MAX_NAME:
        return False
    return all([sign in NAME_LETTERS for sign in value])


def residue_inverse(prime, number):
    """The residue that, multiplied by this one, leaves 1."""
    check_prime(prime)
    check_between(number, 1, prime - 1)
    found = 1
    while number * found % prime != 1:
        found = found + 1
    return found


def common_divisor(numbers):
    """The greatest integer that divides all of a tuple, 0 if all of them are 0."""
    if not isinstance(numbers, tuple) or not all([is_integer(number) for number in numbers]):
        raise InvalidOperation("not a tuple of integers")
    divisor = 0
    for number in numbers:
        divisor = gcd(divisor, number)
    return divisor


def residue_of(prime, number):
    """The residue that an integer leaves when divided by the prime."""
    check_prime(prime)
    if not is_integer(number):
        raise InvalidCount(number)
    return number % prime
