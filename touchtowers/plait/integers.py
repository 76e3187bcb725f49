"""Polynomials in T with integers, told by their entries from the power 0 on. Nothing here is checked."""

from touchtowers.base.series import padded, trimmed


def combined(one, factor, other):
    """The first polynomial, and the second one multiplied by an integer, added."""
    size = max(len(one), len(other))
    return trimmed([entry + factor * more for entry, more in zip(padded(one, size), padded(other, size))])


def multiplied(one, other):
    """The product of both."""
    entries = [0] * (len(one) + len(other))
    for power, factor in enumerate(one):
        if factor != 0:
            for place, entry in enumerate(other, start=power):
                entries[place] = entries[place] + factor * entry
    return trimmed(entries)


def determinant_of(table):
    """The determinant of a table with equally many lines and columns of polynomials, (1,) without lines."""
    # The determinants of the lines so far, by the columns that they take, ascending.
    minors = {(): (1,)}
    for line in table:
        longer = {}
        for columns, minor in minors.items():
            for column in [column for column in range(len(line)) if column not in columns]:
                behind = [other for other in columns if other > column]
                taken = tuple(sorted(columns + (column,)))
                sign = -1 if len(behind) % 2 == 1 else 1
                longer[taken] = combined(longer.get(taken, ()), sign, multiplied(minor, line[column]))
        minors = longer
    return minors[tuple(range(len(table)))]


def power_of_factor(number, exponent, size):
    """The entries below a size of the power of 1 - T ** number with an exponent, perhaps below 0, as a power series."""
    entries = [0] * size
    factor = 1
    for many, place in enumerate(range(0, size, number)):
        entries[place] = factor
        # The next binomial number; the division leaves nothing.
        factor = -factor * (exponent - many) // (many + 1)
    return entries


def product_of_powers(factors):
    """The product of all T ** n - 1 to the power e, for a dict from integers n to e, if it is a polynomial."""
    size = sum([number * exponent for number, exponent in factors.items()]) + 1
    odd = sum([exponent for exponent in factors.values()]) % 2 == 1
    product = (-1,) if odd else (1,)
    for number, exponent in factors.items():
        # The terms from the size on are none of the polynomial's.
        product = multiplied(power_of_factor(number, exponent, size), product)[:size]
    return trimmed(product)
