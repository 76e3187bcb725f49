"""Kinds of branches: the least words with their generators, and the exponents that tell the same."""

from touchtowers.base.numbers import are_whole, check_between, check_prime
from touchtowers.errors import InvalidOperation, InvalidOrders, InvalidWord, TooMany
from touchtowers.kind.expansions import powers_of_expansion
from touchtowers.number.exponents import (count_runs, counts_in_runs, divisors_along, exponents_from, generators_from,
                                          many_in_runs, shares_along)
from touchtowers.number.orders import generators_of
from touchtowers.tower.points import count_at, orders_at
from touchtowers.word.ways import MAX_WAY, check_way, way_entries
from touchtowers.word.words import MAX_LETTERS, TURN, check_branch, is_word

MAX_LISTED = 3000


def options_along(prime, word):
    """For each letter of a word the letters that may stand in its place, ascending, if the kind is to stay."""
    options = []
    is_bound = False
    for index, letter in enumerate(word):
        if index == 0:
            options.append(tuple(range(TURN, prime)))
        elif letter == TURN or (letter == 0 and is_bound):
            # The point behind this letter is a corner, and the next letter tells how the branch leaves it.
            options.append((letter,))
            is_bound = True
        else:
            options.append(tuple(range(1 if is_bound else 0, prime)))
            is_bound = False
    return options


def kind_of_word(word):
    """The kind of the branches with a word."""
    # The prime does not matter for the least letters.
    least = [letters[0] for letters in options_along(2, word)]
    # Only a letter behind a corner has to be 1 at least.
    many = max([index + 1 for index, letter in enumerate(least) if letter == 1], default=0)
    return tuple(least[:many])


def kind_of(branch):
    """The kind of a branch."""
    check_branch(branch)
    return kind_of_word(branch.word)


def is_kind(value):
    """Whether the value is the kind of some branch."""
    # No kind has other letters than those over 2.
    return is_word(2, value) and kind_of_word(value) == value


def are_alike(one, other):
    """Whether two branches, perhaps over unlike primes, have equal generators."""
    check_branch(one)
    check_branch(other)
    return generators_of(one) == generators_of(other)


def options_of_kind(prime, kind, length):
    """For each letter of the words of a kind with so many letters those that may stand there, ascending."""
    options = options_along(prime, kind + (0,) * (length - len(kind)))
    if length > len(kind):
        options[-1] = tuple([letter for letter in options[-1] if letter != 0])
    return options


def count_of_kind(prime, kind, length):
    """How many words with so many letters have this kind."""
    check_prime(prime)
    if not is_kind(kind):
        raise InvalidWord("not the kind of a branch")
    check_between(length, 0, MAX_LETTERS)
    if length < len(kind):
        return 0
    many = 1
    for letters in options_of_kind(prime, kind, length):
        many = many * len(letters)
    return many


def numbered_choice(options, number):
    """The word with an index among all that take one letter of each of the options."""
    word = []
    for letters in reversed(options):
        number, rest = divmod(number, len(letters))
        word.append(letters[rest])
    return tuple(word[::-1])


def each_of_kind(prime, kind, length):
    """All words with so many letters that have this kind, ascending."""
    many = count_of_kind(prime, kind, length)
    if many > MAX_LISTED:
        raise TooMany(MAX_LISTED)
    options = options_of_kind(prime, kind, length)
    for number in range(many):
        yield numbered_choice(options, number)


def exponents_of(branch):
    """The exponents of a branch."""
    return exponents_from(generators_of(branch))


def pairs_of(branch):
    """The pairs of a branch."""
    exponents = exponents_of(branch)
    tops = [exponent // divisor for exponent, divisor in zip(exponents, divisors_along(exponents))]
    return tuple(zip(tops[1:], shares_along(exponents)))


def ascend_as_exponents(numbers):
    """Whether two or more integers above 0 have the divisors and the steps of exponents."""
    divisors = divisors_along(numbers)
    if divisors[-1] != 1 or not all([low < high for low, high in zip(numbers, numbers[1:])]):
        return False
    return all([low < high for high, low in zip(divisors, divisors[1:])])


def are_exponents(value):
    """Whether the value is the tuple of the exponents of some branch."""
    if not are_whole(value) or not all([exponent > 0 for exponent in value]):
        return False
    return value == (1,) or (len(value) > 1 and ascend_as_exponents(value))


def check_exponents(exponents):
    """Refuse all but the exponents of branches."""
    if not are_exponents(exponents):
        raise InvalidOrders("not the exponents of a branch")


def generators_by_exponents(exponents):
    """The generators of the branches with these exponents."""
    check_exponents(exponents)
    return generators_from(exponents)


def counts_by_exponents(exponents):
    """The counts that come of the exponents by division, (1,) for smooth branches."""
    check_exponents(exponents)
    runs = count_runs(exponents)
    if many_in_runs(runs) > MAX_LISTED:
        raise TooMany(MAX_LISTED)
    return counts_in_runs(runs) if len(exponents) > 1 else (1,)


def exponents_by_way(branch):
    """The exponents of a branch, by its way as a power series."""
    check_branch(branch)
    first = count_at(branch, 0)
    if first % branch.prime == 0:
        raise InvalidOperation("the prime divides the count at the origin")
    check_way(branch)
    last = exponents_of(branch)[-1]
    if last > MAX_WAY:
        raise TooMany(MAX_WAY)
    x, y = way_entries(branch)
    if orders_at(branch, 0)[0] != first:
        x, y = y, x
    return (first,) + powers_of_expansion(branch.prime, first, x, y, last + 1)
