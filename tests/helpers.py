"""What several tests use: branches, wrong values, and the examples of the document."""

import ast
import unittest

from touchtowers import errors
from touchtowers.base.numbers import PRIMES
from touchtowers.errors import InvalidPrime
from touchtowers.word.words import Branch

LINE = Branch(3, ())
SIDE = Branch(3, (-1,))
BOW = Branch(3, (1, 1))
CUSP = Branch(3, (0, -1, 1))
HOOK = Branch(3, (0, -1, 2))
FOUR = Branch(3, (0, -1, 1, -1, 1))
TALL = Branch(3, (0, 0, -1, 0, 1))
STEEP = Branch(3, (-1, -1, 1))
DEEP = Branch(3, (1, -1, 0, 1, 0, -1, 2))
WILD = Branch(2, (0, -1, 1))
NAMED = {"LINE": LINE, "SIDE": SIDE, "BOW": BOW, "CUSP": CUSP, "HOOK": HOOK, "FOUR": FOUR,
         "TALL": TALL, "STEEP": STEEP, "DEEP": DEEP, "WILD": WILD}

SIXTY = 10 ** 60 - 1
SIXTY_ONE = 10 ** 60

# Values of every kind that may be passed, none of them a prime, a small count or a useful text.
NO_INTEGERS = (None, True, False, "", "1", ".", "x" * 4000, (), (1,), (True,), [], [1], {}, {1: 1}, {(0, 0): 1},
               LINE, InvalidPrime("a message"), SIXTY_ONE, -SIXTY_ONE, 10 ** 100 - 1, 1 - 10 ** 100,
               ((((((((0,),),),),),),),), [[[[[[[[0]]]]]]]])
NO_PRIMES = NO_INTEGERS + (0, 1, 4, 9, 37, -2, -3, SIXTY)


class PlainTest(unittest.TestCase):
    """A test with a few more ways to compare."""

    def same(self, found, wanted):
        """The values are equal, and True is not 1 inside of them."""
        self.assertEqual(found, wanted)
        self.assertEqual(plain(found), plain(wanted))

    def raised(self, wanted, call, *passed, **named):
        """The call raises just this error, with what it keeps."""
        with self.assertRaises(Exception) as caught:
            call(*passed, **named)
        error = caught.exception
        kind = wanted if isinstance(wanted, type) else type(wanted)
        if type(error) is not kind:
            self.fail(f"{call} of {passed}: {error!r} is no {kind}")
        if not isinstance(wanted, type):
            self.assertEqual(plain(vars(error)), plain(vars(wanted)))
        return error

    def refused(self, kind, call, passed, place, values):
        """Each of the values, at this place of the arguments, raises the error, which keeps the value if it can."""
        for value in values:
            error = self.raised(kind, call, *passed[:place], value, *passed[place + 1:])
            if kind is errors.InvalidCount:
                self.assertIs(error.value, value)

    def refuses_primes(self, call, *further):
        """The call refuses all that are no primes, whatever stands behind the prime."""
        self.refused(InvalidPrime, call, (2,) + further, 0, NO_PRIMES)

    def judges(self, call, passed, right, wrong):
        """The call returns True for right values behind the passed ones, and False for wrong ones."""
        for value in right:
            self.assertIs(call(*passed, value), True, repr(value))
        for value in wrong:
            self.assertIs(call(*passed, value), False, repr(value))

    def examples(self, text, names):
        """Each example of a block of the document holds."""
        names = dict(NAMED, **names)
        rows = text.strip().splitlines()
        at = 0
        while at < len(rows):
            self.assertTrue(rows[at].startswith(">>> "), rows[at])
            code, at = rows[at][4:], at + 1
            wanted = None
            if at < len(rows) and not rows[at].startswith(">>> "):
                wanted, at = rows[at], at + 1
            self.example(code, wanted, names)

    def example(self, code, wanted, names):
        """One row of code returns, raises or does what is told."""
        if wanted is None:
            exec(code, names)
        elif wanted.startswith("raises "):
            told = eval(wanted[len("raises "):], dict(names, **vars(errors)))
            self.raised(told, lambda: eval(code, names))
        else:
            with self.subTest(code):
                self.same(eval(code, names), ast.literal_eval(wanted))


def plain(value):
    """A text that is equal for equal values, and unlike for True and 1."""
    if isinstance(value, dict):
        return f"{{{', '.join(f'{plain(key)}: {plain(value[key])}' for key in value)}}}"
    if isinstance(value, (tuple, list)):
        return f"{type(value).__name__}({', '.join(plain(entry) for entry in value)})"
    return repr(value)


def small_words(prime, most):
    """All words over the prime with at most so many letters, made with nothing of the program."""
    points = [()]
    found = []
    for _ in range(most + 1):
        found.extend([point for point in points if point in ((), (-1,)) or point[-1] > 0])
        points = [point + (letter,) for point in points for letter in range(-1, prime)]
    return found


def small_branches(prime, most):
    """All branches over the prime with words of at most so many letters."""
    return [Branch(prime, word) for word in small_words(prime, most)]


FEW_PRIMES = (2, 3, 5, 31)
assert set(FEW_PRIMES) <= set(PRIMES)


def numbers_made(seed, many, below):
    """Numbers from 0 on that look mixed, the same at each run."""
    found = []
    state = seed + 1
    for _ in range(many):
        state = (state * 6364136223846793005 + 1442695040888963407) % 2 ** 64
        found.append((state >> 33) % below)
    return found
