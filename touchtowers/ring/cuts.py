"""Ways, polynomials in x and y, and rings of branches, all of them cut at sizes.

A cut element of a ring is a line: a list of residues that has the entries of its first series below the first size,
then those of the second series below the second size, and so on. Nothing here is checked.
"""

from touchtowers.base.numbers import residue_inverse
from touchtowers.base.packing import packed, room_for
from touchtowers.base.series import least_power, multiplied_series, padded, scaled_sum
from touchtowers.base.tables import cleared, echelon_of_lines
from touchtowers.word.words import TURN


def cut_product(prime, one, other, size):
    """So many entries of the product of two series."""
    return padded(multiplied_series(prime, one, other), size)


def cut_way(branch, size):
    """So many entries of both series of the way."""
    prime = branch.prime
    u, v = padded([0, 1], size), [0] * size
    for letter in reversed(branch.word):
        if letter == TURN:
            u, v = cut_product(prime, u, v, size), u
        else:
            v = cut_product(prime, u, scaled_sum(prime, v, letter, [1]), size)
    return u, v


def cut_powers(prime, entries, most, size):
    """The powers of a series from 0 up to this one, each of them cut."""
    powers = [padded([1], size)]
    for _ in range(most):
        powers.append(cut_product(prime, powers[-1], entries, size))
    return powers


def cut_value(plane, branch, size):
    """So many entries of what comes if the way of the branch is put in."""
    x, y = cut_way(branch, size)
    table = plane.table
    powers = cut_powers(plane.prime, y, max([j for i, j in table], default=0), size)
    # The series at each power of x, put together by Horner's rule.
    lines = {}
    for (i, j), entry in table.items():
        lines[i] = scaled_sum(plane.prime, lines.get(i, []), entry, powers[j])
    value = []
    for i in range(max(list(lines), default=-1), -1, -1):
        value = scaled_sum(plane.prime, cut_product(plane.prime, value, x, size), 1, lines.get(i, []))
    return value


def line_times(prime, line, factors, sizes):
    """A line, with each of its series multiplied by the factor at its place."""
    found = []
    start = 0
    for factor, size in zip(factors, sizes):
        found.extend(cut_product(prime, line[start:start + size], factor, size))
        start = start + size
    return found


def lines_closed(prime, one, factors, sizes):
    """Lines of which all products of one line with the factors, taken in any number, are mixes."""
    columns = sum(sizes)
    # To an entry, itself a residue, each step adds at most the square of the greatest residue.
    room = room_for((prime - 1) * (1 + (prime - 1) * columns))
    steps = []
    found = []
    waiting = [one]
    while len(waiting) > 0:
        line = cleared(prime, packed(waiting.pop(), room), steps, room, columns)
        column = least_power(line)
        if column is not None:
            inverse = residue_inverse(prime, line[column])
            line = [entry * inverse % prime for entry in line]
            steps = sorted(steps + [(column, packed(line, room))])
            found.append(line)
            waiting.extend([line_times(prime, line, factor, sizes) for factor in factors])
    return found


def ring_lines(branches, sizes):
    """The echelon of the ring of some branches, cut at sizes from 0 on."""
    if sum(sizes) == 0:
        return ()
    prime = branches[0].prime
    ways = [cut_way(branch, size) for branch, size in zip(branches, sizes)]
    one = [entry for size in sizes for entry in padded([1], size)]
    factors = [[x for x, y in ways], [y for x, y in ways]]
    return echelon_of_lines(prime, lines_closed(prime, one, factors, sizes))
