"""Polynomials in u and v, told by their terms of low degrees, and what blowing up makes of them.

A jet has the terms of all degrees below its size: a dict from the degrees of its terms to lines. In the line of the
degree d the entry with the index j belongs to u to the power d - j, and to v to the power j; the last entry is not 0.
Several polynomials are blown up at once: each entry is the packed line of their residues. Nothing here is checked.
"""

from touchtowers.base.numbers import residue_inverse
from touchtowers.base.packing import packed, room_for, unpacked
from touchtowers.base.series import least_power
from touchtowers.base.tables import cleared
from touchtowers.tower.points import near_points
from touchtowers.word.words import TURN

MAX_SIZE = 201


def shift_columns(prime, residue, many):
    """For each power of v its entries in (v + residue) to this power, to the next one, and so on, below many."""
    lines = [[1]]
    while len(lines) < many:
        last = lines[-1]
        lines.append([(residue * entry + lower) % prime for entry, lower in zip(last + [0], [0] + last)])
    return [[line[power] for line in lines[power:]] for power in range(many)]


class Family:
    """Some polynomials in x and y over one prime, looked at together. It never changes."""

    def __init__(self, prime, planes):
        self.modulus = prime
        self.planes = planes
        self.columns = len(planes)
        # To a residue, clearing adds one product of residues for each column at most; blowing up adds fewer than the
        # size of a jet.
        self.room = room_for((prime - 1) * (1 + (prime - 1) * max(self.columns, MAX_SIZE)))

    def reduced(self, number):
        """The packed line of the residues that a packed line leaves."""
        if number == 0:
            return 0
        return packed(unpacked(self.modulus, number, self.room, self.columns), self.room)

    def jet_at_origin(self, size):
        """The jet of the polynomials themselves."""
        rows = {}
        for index, plane in enumerate(self.planes):
            place = 1 << (4 * self.room * (self.columns - 1 - index))
            for (i, j), entry in plane.table.items():
                row = rows.setdefault(i, [0] * size)
                if i + j < size:
                    row[j] = row[j] + entry * place
        return jet_of_rows(rows)

    def shifted(self, line, factors, many):
        """So many entries of what a line becomes if a residue is added to v, by the columns that tell this shift."""
        found = []
        for power in range(min(many, len(line))):
            number = sum([entry * factor for entry, factor in zip(line[power:], factors[power]) if entry != 0])
            found.append(self.reduced(number))
        return found

    def blown_up(self, jet, letter, weight, size):
        """What the terms of a jet from the weight on become along a letter, divided by u to the weight.

        The size of the jet is at least this size and the weight together.
        """
        longest = max([len(line) for line in jet.values()], default=0)
        factors = shift_columns(self.modulus, letter, longest) if letter > 0 else []
        rows = {}
        for degree in [degree for degree in jet if weight <= degree < weight + size]:
            # All terms of this degree get one power of u.
            line, power = jet[degree], degree - weight
            if letter == TURN:
                rows[power] = ([0] * (degree + 1 - len(line)) + line[::-1])[:size - power]
            elif letter == 0:
                rows[power] = line[:size - power]
            else:
                rows[power] = self.shifted(line, factors, size - power)
        return jet_of_rows(rows)


def jet_of_rows(rows):
    """The jet with these entries: a dict from powers of u to those at the powers of v."""
    jet = {}
    # With these powers descending, those of v ascend in each line.
    for power in sorted(rows, reverse=True):
        for j, entry in enumerate(rows[power]):
            if entry != 0:
                line = jet.setdefault(power + j, [])
                line.extend([0] * (j - len(line)))
                line.append(entry)
    return jet


def orders_along(plane, point, size):
    """The orders of what a polynomial becomes at the points up to this one, divided by all that it can be each time.

    It is None if these orders add up to the size or more.
    """
    family = Family(plane.prime, (plane,))
    jet = family.jet_at_origin(size)
    orders = []
    for letter in (*point, 0):
        if len(jet) == 0:
            return None
        order = min(list(jet))
        orders.append(order)
        if order == 0:
            # It is not zero here, and at no point above.
            return orders + [0] * (len(point) + 1 - len(orders))
        size = size - order
        jet = family.blown_up(jet, letter, order, size)
    return orders


class Echelon:
    """Packed lines in unlike columns of which all lines taken in are mixes."""

    def __init__(self, family):
        self._family = family
        self.steps = []

    def take_in(self, number):
        """Take in a packed line of residues."""
        if number == 0:
            return
        family = self._family
        entries = cleared(family.modulus, number, self.steps, family.room, family.columns)
        column = least_power(entries)
        if column is not None:
            inverse = residue_inverse(family.modulus, entries[column])
            line = packed([entry * inverse % family.modulus for entry in entries], family.room)
            self.steps = sorted(self.steps + [(column, line)])

    def is_full(self):
        """Whether all lines are mixes."""
        return len(self.steps) == self._family.columns

    def unpacked_lines(self):
        """The lines, ascending by their columns, as tuples of residues."""
        family = self._family
        return [tuple(unpacked(family.modulus, line, family.room, family.columns)) for column, line in self.steps]


def amounts_asked(weights):
    """For each point the order that is asked for once all that is sure is divided away, ascending.

    These are weights that no polynomial tells from the given ones, and none of them is below 0.
    """
    worths = weights.worths
    sure = {}
    amounts = {}
    for point in worths:
        # A polynomial with such orders at the points that this one is near has their sum as its order here.
        held = sum([sure[lower] for lower in near_points(point)])
        amounts[point] = max(0, worths[point] - held)
        sure[point] = held + amounts[point]
    return amounts


def sizes_needed(amounts):
    """For each point the size of the jets that tell all that is asked for there and above."""
    beyond = {point: 0 for point in amounts}
    sizes = {}
    for point in list(amounts)[::-1]:
        sizes[point] = amounts[point] + beyond[point]
        if len(point) > 0:
            beyond[point[:-1]] = max(beyond[point[:-1]], sizes[point])
    return sizes


def conditions_on(weights, planes):
    """Lines of residues, none a mix of the others, that make 0 just of those factors with which the polynomials,
    multiplied by them and added up, go through the weights."""
    family = Family(weights.prime, planes)
    found = Echelon(family)
    amounts = amounts_asked(weights)
    sizes = sizes_needed(amounts)
    path = [family.jet_at_origin(sizes[()])]
    for point in [point for point in amounts if sizes[point] > 0]:
        if found.is_full():
            break
        if len(point) > 0:
            # The points ascend, so the one below this one is the last one of its height.
            below = point[:-1]
            jet = family.blown_up(path[len(below)], point[-1], amounts[below], sizes[point])
            path = path[:len(point)] + [jet]
        for degree in range(amounts[point]):
            for entry in path[-1].get(degree, []):
                found.take_in(entry)
    return found.unpacked_lines()
