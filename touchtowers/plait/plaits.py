"""Plaits: strings that cross, their closing polynomials, and the plaits of branches."""

from touchtowers.base.numbers import check_between, is_between
from touchtowers.errors import InvalidPlait, TooMany
from touchtowers.number.exponents import divisors_along, shares_along
from touchtowers.number.orders import last_gap
from touchtowers.plait.integers import combined, determinant_of, multiplied

MAX_STRINGS = 6
MAX_CROSSINGS = 200


def is_plait(value):
    """Whether the value is a plait."""
    if not isinstance(value, tuple) or len(value) != 2 or not is_between(value[0], 1, MAX_STRINGS):
        return False
    if not isinstance(value[1], tuple) or len(value[1]) > MAX_CROSSINGS:
        return False
    return all([is_between(crossing, 0, value[0] - 2) for crossing in value[1]])


def check_plait(plait):
    """Refuse all but plaits."""
    if not is_plait(plait):
        raise InvalidPlait("not a plait")


def strings_crossed(plait):
    """The pairs of strings that the crossings exchange, and the strings that end at the places, both in order."""
    strings, crossings = plait
    places = list(range(strings))
    pairs = []
    for crossing in crossings:
        left, right = places[crossing:crossing + 2]
        pairs.append((left, right))
        places[crossing:crossing + 2] = [right, left]
    return pairs, places


def strings_closed(plait):
    """The closed strings, ascending."""
    pairs, ends = strings_crossed(plait)
    found = []
    left = list(range(plait[0]))
    while len(left) > 0:
        closed = [left[0]]
        # The string that ends at the place at which another one begins is put ahead of it.
        while ends[closed[-1]] != closed[0]:
            closed.append(ends[closed[-1]])
        left = [string for string in left if string not in closed]
        found.append(tuple(sorted(closed)))
    return found


def closed_strings(plait):
    """The closed strings, ascending, each of them told by the places at which its strings begin."""
    check_plait(plait)
    return tuple(strings_closed(plait))


def links(plait):
    """The table of the links of each two closed strings."""
    check_plait(plait)
    closed = strings_closed(plait)
    places = {string: place for place, strings in enumerate(closed) for string in strings}
    pairs, ends = strings_crossed(plait)
    many = [[0] * len(closed) for strings in closed]
    for left, right in pairs:
        many[places[left]][places[right]] = many[places[left]][places[right]] + 1
        many[places[right]][places[left]] = many[places[right]][places[left]] + 1
    return tuple([tuple([0 if place == other else entry // 2 for other, entry in enumerate(line)])
                  for place, line in enumerate(many)])


def line_crossed(line, crossing):
    """The product of a line of polynomials and a crossing table."""
    left, right = line[crossing:crossing + 2]
    moved = multiplied((0, 1), left)
    # All other columns stay.
    return line[:crossing] + [combined(combined(left, 1, right), -1, moved), moved] + line[crossing + 2:]


def lines_of_plait(plait):
    """The lines of the table of a plait, lists of polynomials."""
    strings, crossings = plait
    lines = [[(1,) if place == column else () for column in range(strings)] for place in range(strings)]
    for crossing in crossings:
        lines = [line_crossed(line, crossing) for line in lines]
    return lines


def table_of_plait(plait):
    """The table of a plait."""
    check_plait(plait)
    return tuple([tuple(line) for line in lines_of_plait(plait)])


def closing_polynomial(plait):
    """The closing polynomial of a plait."""
    check_plait(plait)
    lines = []
    for place, line in enumerate(lines_of_plait(plait)):
        lines.append([combined((1,) if place == column else (), -1, entry) for column, entry in enumerate(line)])
    return determinant_of([line[1:] for line in lines[1:]])


def cabled_plait(plait, many, twists):
    """The plait cabled by two integers, however great."""
    strings, crossings = plait
    found = [(crossing + 1) * many - 1 - i + j for crossing in crossings for i in range(many) for j in range(many)]
    return (strings * many, tuple(found) + tuple(range(many - 1)) * twists)


def cabled(plait, many, twists):
    """The plait cabled by two integers."""
    check_plait(plait)
    check_between(many, 1, MAX_STRINGS)
    check_between(twists, 0, MAX_CROSSINGS)
    made = cabled_plait(plait, many, twists)
    if made[0] > MAX_STRINGS:
        raise TooMany(MAX_STRINGS)
    if len(made[1]) > MAX_CROSSINGS:
        raise TooMany(MAX_CROSSINGS)
    return made


def plait_of(generators):
    """The plait of generators."""
    # The crossings are told ahead, as there may be far too many of them.
    crossings = last_gap(generators) + generators[0]
    if generators[0] > MAX_STRINGS:
        raise TooMany(MAX_STRINGS)
    if crossings > MAX_CROSSINGS:
        raise TooMany(MAX_CROSSINGS)
    plait = (1, ())
    shares, divisors = shares_along(generators), divisors_along(generators)
    for share, generator, divisor in zip(shares, generators[1:], divisors[1:]):
        plait = cabled_plait(plait, share, generator // divisor - share * len(plait[1]))
    return plait


def by_plait(generators):
    """The polynomial of a branch with these generators, by its plait."""
    return closing_polynomial(plait_of(generators))
