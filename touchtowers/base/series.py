"""Polynomials and power series in t modulo a prime, told by lists of residues.

The entry with the index i belongs to t to the power i. Missing entries are 0, and there may be zeros at the end.
"""

from touchtowers.base.numbers import residue_inverse
from touchtowers.base.packing import packed, room_for, unpacked


def least_power(entries):
    """The least index of an entry other than 0, None if there is none."""
    for power, entry in enumerate(entries):
        if entry != 0:
            return power
    return None


def trimmed(entries):
    """The entries as a tuple, without zeros at its end."""
    many = len(entries)
    while many > 0 and entries[many - 1] == 0:
        many = many - 1
    return tuple(entries[:many])


def padded(entries, size):
    """A list of just so many entries."""
    return list(entries[:size]) + [0] * (size - len(entries))


def scaled_sum(prime, one, factor, other):
    """The first series, and the second one multiplied by a residue, added."""
    size = max(len(one), len(other))
    return [(first + factor * second) % prime for first, second in zip(padded(one, size), padded(other, size))]


def multiplied_series(prime, one, other):
    """The product of both."""
    if len(one) == 0 or len(other) == 0:
        return []
    room = room_for(min(len(one), len(other)) * (prime - 1) * (prime - 1))
    return unpacked(prime, packed(one, room) * packed(other, room), room, len(one) + len(other) - 1)


def powered_series(prime, entries, many):
    """The power with an exponent of at least 0, by repeated squares."""
    result = [1]
    square = entries
    while many > 0:
        if many % 2 == 1:
            result = multiplied_series(prime, result, square)
        many = many // 2
        if many > 0:
            square = multiplied_series(prime, square, square)
    return result


def composed_series(prime, one, other, size):
    """The first series with the second one, of an order of at least 1, in the place of t, below the power size."""
    # Powers of the second one from size on have no terms below size.
    inner = other[:size]
    result = []
    for entry in reversed(one[:size]):
        result = scaled_sum(prime, multiplied_series(prime, result, inner)[:size], entry, [1])
    return result[:size]


def divided_series(prime, one, other, size):
    """So many entries of the quotient by a series with an order that is not above that of the first one."""
    order = least_power(other)
    wanted = padded(one[order:], size)
    divisor = other[order:order + size]
    inverse = residue_inverse(prime, other[order])
    result = []
    for power in range(size):
        # What the entries so far already make of this power in the product.
        made = sum([entry * factor for entry, factor in zip(reversed(result), divisor[1:])])
        result.append((wanted[power] - made) * inverse % prime)
    return result


def turned_back_series(prime, entries, size):
    """The series that makes t, below the power size, if this one of the order 1 is put in."""
    inner = entries[:size]
    rest = padded([0, 1], size)
    result = []
    power = [1]
    for index in range(size):
        # Only the terms from here on can still change this power of t.
        entry = rest[index] * residue_inverse(prime, power[index]) % prime
        result.append(entry)
        rest = scaled_sum(prime, rest, -entry % prime, power)
        power = multiplied_series(prime, power, inner)[:size]
    return result
