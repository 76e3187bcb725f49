"""Rolls of all kinds of branches that lack so much, by their generators and by their reduced counts."""

from math import gcd

from touchtowers.base.numbers import check_between, check_prime, is_integer
from touchtowers.errors import InvalidOrders, TooMany
from touchtowers.kind.kinds import kind_of_word
from touchtowers.number.exponents import (count_runs, counts_in_runs, division_pairs, exponents_from, generators_from,
                                          many_in_runs)
from touchtowers.number.orders import check_generators, letters_between
from touchtowers.tower.points import counts_along
from touchtowers.word.words import MAX_LETTERS, Branch, count_words, each_word

MAX_ROLLED = 12
MAX_TALLIED = 3000

MAX_ROW = 1000


def longer_beginnings(begun, rest):
    """The beginnings of generators with one more, each with what is left of the rest.

    The rest is what all further generators, multiplied by their shares less 1, have to add up to.
    """
    numbers, divisor, bound = begun
    found = []
    for number in range(bound + 1, rest + 1):
        common = gcd(divisor, number)
        share = divisor // common
        if share > 1 and (share - 1) * number <= rest:
            found.append(((numbers + (number,), common, share * number), rest - (share - 1) * number))
    return found


def generators_lacking(lacked):
    """The generators of all branches that lack so much, ascending."""
    found = [(1,)] if lacked == 0 else []
    # The first count alone makes a branch lack first * (first - 1) // 2.
    firsts = [first for first in range(2, lacked + 2) if first * (first - 1) <= 2 * lacked]
    waiting = [(((first,), first, first), 2 * lacked + first - 1) for first in firsts]
    while len(waiting) > 0:
        begun, rest = waiting.pop()
        numbers, divisor, bound = begun
        if divisor == 1 and rest == 0:
            found.append(numbers)
        waiting.extend(longer_beginnings(begun, rest))
    return sorted(found)


def generators_with(lacked):
    """The generators of all branches that lack so much, ascending."""
    check_between(lacked, 0, MAX_ROLLED)
    return tuple(generators_lacking(lacked))


def count_kinds(lacked):
    """How many generators belong to branches that lack so much."""
    return len(generators_with(lacked))


def rows_with(lacked):
    """The reduced counts of all branches that lack so much, ascending."""
    check_between(lacked, 0, MAX_ROLLED)
    found = []
    waiting = [((), lacked)]
    while len(waiting) > 0:
        counts, rest = waiting.pop()
        if rest == 0 and is_row(counts + (1,)):
            found.append(counts + (1,))
        most = min(counts, default=lacked + 1)
        waiting.extend([(counts + (count,), rest - count * (count - 1) // 2) for count in range(2, most + 1)
                        if count * (count - 1) <= 2 * rest])
    return tuple(sorted(found))


def equal_runs(row):
    """For each integer of a row how many equal ones stand side by side from it on."""
    runs = []
    for index in range(len(row) - 1, -1, -1):
        goes_on = index + 1 < len(row) and row[index] == row[index + 1]
        runs.append(runs[-1] + 1 if goes_on else 1)
    return runs[::-1]


def is_sum_of_next(row, runs, index):
    """Whether the integer at an index is the sum of some that follow it, as [15.2] says.

    The runs tell how many equal integers stand side by side. Integers 1 go on behind the row.
    """
    following, run = row[index + 1], runs[index + 1]
    many, rest = divmod(row[index], following)
    if following == 1:
        return True
    if rest == 0:
        return many <= run
    return many == run and row[index + 1 + run] == rest


def is_row(row):
    """Whether a tuple of integers of at least 2, and of 1 at its end, is a count row."""
    runs = equal_runs(row)
    # Those that add up to one, but for the last two of them, have an equal one behind them. So it is sure that each
    # of these is the sum of just one integer.
    return all([is_sum_of_next(row, runs, index) for index in range(len(row) - 1)])


def is_count_row(value):
    """Whether the value is a count row."""
    if not isinstance(value, tuple) or len(value) == 0 or not all([is_integer(count) for count in value]):
        return False
    return value[-1] == 1 and all([count >= 2 for count in value[:-1]]) and is_row(value)


def row_of(generators):
    """The reduced counts of the branches with these generators."""
    check_generators(generators)
    runs = [(count, many) for count, many in count_runs(exponents_from(generators)) if count > 1]
    if many_in_runs(runs) >= MAX_ROW:
        raise TooMany(MAX_ROW)
    return counts_in_runs(runs) + (1,)


def runs_of(row):
    """The pairs of an integer of a count row and of how often it stands there, as lists."""
    runs = []
    for count in row:
        if len(runs) > 0 and runs[-1][0] == count:
            runs[-1][1] = runs[-1][1] + 1
        else:
            runs.append([count, 1])
    return runs


def exponents_of_row(row):
    """The exponents of the branches with these reduced counts."""
    runs = runs_of(row)
    exponents = [row[0]]
    # The last common divisor is the count at this place; so many of it are left for the next division.
    place, left = 0, runs[0][1]
    while runs[place][0] > 1:
        divisor = runs[place][0]
        step = left * divisor + runs[place + 1][0]
        exponents.append(step if len(exponents) == 1 else exponents[-1] + step)
        top, place = divisor, place + 1
        while top % runs[place][0] != 0:
            top, place = runs[place][0], place + 1
        left = runs[place][1] - top // runs[place][0]
    return tuple(exponents)


def generators_of_row(row):
    """The generators of the branches with these reduced counts."""
    if not is_count_row(row):
        raise InvalidOrders("not a count row")
    if len(row) > MAX_ROW:
        raise TooMany(MAX_ROW)
    return generators_from(exponents_of_row(row))


def first_branch(prime, generators):
    """The branch with the first word of those with these generators."""
    check_prime(prime)
    check_generators(generators)
    exponents = exponents_from(generators)
    if many_in_runs(count_runs(exponents)) > MAX_LETTERS:
        raise TooMany(MAX_LETTERS)
    letters = []
    for top, bottom in division_pairs(exponents):
        letters.extend(letters_between(top, bottom))
    # The kind is as short as a word with these generators can be.
    return Branch(prime, kind_of_word(tuple(letters)))


def tally(prime, length):
    """The dict from integers, ascending, to how many words with so many letters tell branches that lack so much."""
    if count_words(prime, length) > MAX_TALLIED:
        raise TooMany(MAX_TALLIED)
    many = {}
    for word in each_word(prime, length):
        lacked = sum([count * (count - 1) // 2 for count in counts_along(word)])
        many[lacked] = many.get(lacked, 0) + 1
    return {lacked: many[lacked] for lacked in sorted(many)}
