"""[0.1], [0.8], [1.3] and the functions of touchtowers.base.numbers."""

from math import gcd

from touchtowers.base import numbers
from touchtowers.base.numbers import (common_divisor, is_integer, is_letter, is_name, is_prime, is_residue,
                                      residue_inverse, residue_of)
from touchtowers.errors import InvalidCount, InvalidOperation, InvalidPrime
from tests.helpers import CUSP, NO_INTEGERS, NO_PRIMES, SIXTY, SIXTY_ONE, PlainTest

EXAMPLES = """
>>> [is_prime(2), is_prime(31), is_prime(37), is_prime(True), is_residue(7, 7), is_letter(7, -1), is_letter(7, 6), is_letter(7, -2), is_name("cusp"), is_name("Cusp")]
[True, True, False, False, False, True, True, False, True, False]
>>> [residue_inverse(7, 3), residue_inverse(2, 1), common_divisor((6, 8, 27)), common_divisor((12, -18, 0)), common_divisor(()), residue_of(5, -7)]
[5, 1, 1, 6, 0, 3]
>>> residue_inverse(5, 0)
raises InvalidCount(0)
"""


class NumbersTest(PlainTest):

    def test_examples(self):
        self.examples(EXAMPLES, vars(numbers))

    def test_constants(self):
        self.same(numbers.PRIMES, (2, 3, 5, 7, 11, 13, 17, 19, 23, 29, 31))
        self.same(numbers.MAX_NAME, 8)

    def test_is_integer(self):
        self.judges(is_integer, (), (0, 1, -1, 2, SIXTY, -SIXTY, 10 ** 59), NO_INTEGERS)

    def test_is_prime(self):
        self.judges(is_prime, (), numbers.PRIMES, NO_PRIMES)
        self.same([number for number in range(-40, 40) if is_prime(number)], list(numbers.PRIMES))

    def test_is_residue(self):
        for prime in numbers.PRIMES:
            self.judges(is_residue, (prime,), range(prime), NO_INTEGERS + (-1, prime, SIXTY, -SIXTY))
        self.refuses_primes(is_residue, 0)
        self.refuses_primes(is_residue, None)

    def test_is_letter(self):
        for prime in numbers.PRIMES:
            self.judges(is_letter, (prime,), range(-1, prime), NO_INTEGERS + (-2, prime, SIXTY, -SIXTY))
        self.refuses_primes(is_letter, 0)
        self.refuses_primes(is_letter, "t")

    def test_is_name(self):
        right = ("a", "z", "cusp", "abcdefgh", "zzzzzzzz")
        wrong = ("", "abcdefghi", "Cusp", "a b", "a1", "a_b", "ab-", "{", "`", "a\n", 1, ("a",), ["a"], {"a": 1},
                 None, True, CUSP, "a" * 4000)
        self.judges(is_name, (), right, wrong)
        self.same([sign for sign in map(chr, range(127)) if is_name(sign)], list("abcdefghijklmnopqrstuvwxyz"))

    def test_inverse(self):
        for prime in numbers.PRIMES:
            for number in range(1, prime):
                inverse = residue_inverse(prime, number)
                self.assertIs(is_residue(prime, inverse), True)
                self.assertEqual(number * inverse % prime, 1)
            self.refused(InvalidCount, residue_inverse, (prime, 1), 1, NO_INTEGERS + (0, -1, prime, prime + 1))
        self.refuses_primes(residue_inverse, 1)
        self.raised(InvalidPrime, residue_inverse, 4, 0)

    def test_common_divisor(self):
        for one in range(-12, 13):
            for other in range(-12, 13):
                self.same(common_divisor((one, other)), gcd(one, other))
        self.same(common_divisor((0, 0)), 0)
        self.same(common_divisor((-7,)), 7)
        self.same(common_divisor((-SIXTY, 0, SIXTY)), SIXTY)
        self.same(common_divisor((2 ** 190, 6 ** 70, 10 ** 59)), 2 ** 59)
        self.same(common_divisor(tuple(range(6, 6000, 6))), 6)

    def test_common_divisor_refuses(self):
        wrong = (None, True, 6, "6", [6], {6: 1}, CUSP, (6, True), (False,), ("6",), (6, (3,)), (None,), ([],),
                 (SIXTY_ONE,), (6, -SIXTY_ONE), (CUSP,))
        self.refused(InvalidOperation, common_divisor, ((),), 0, wrong)

    def test_residue_of(self):
        for prime in numbers.PRIMES:
            for number in (-100, -prime, -1, 0, 1, prime - 1, prime, 1000, SIXTY, -SIXTY):
                residue = residue_of(prime, number)
                self.assertIs(is_residue(prime, residue), True)
                self.assertEqual((number - residue) % prime, 0)
            self.refused(InvalidCount, residue_of, (prime, 1), 1, NO_INTEGERS)
        self.refuses_primes(residue_of, 1)
        self.raised(InvalidPrime, residue_of, True, True)
