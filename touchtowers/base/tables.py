"""Tables of residues: their ranks, their echelons, and what they make zero."""

from touchtowers.base.numbers import are_residues, check_prime, residue_inverse
from touchtowers.base.packing import packed, room_for, unpacked, unpacked_entry
from touchtowers.base.series import least_power
from touchtowers.errors import InvalidTable

MAX_LINES = 400


def is_table(prime, value):
    """Whether the value is a table of the prime."""
    if not isinstance(value, tuple) or not 1 <= len(value) <= MAX_LINES:
        return False
    if not all([isinstance(line, tuple) and 1 <= len(line) <= MAX_LINES for line in value]):
        return False
    return all([len(line) == len(value[0]) and are_residues(prime, line) for line in value])


def check_table(prime, table):
    """Refuse all but primes with their tables."""
    check_prime(prime)
    if not is_table(prime, table):
        raise InvalidTable("not a table of residues")


def check_goal(prime, table, goal):
    """Refuse all but tables with a residue for each line."""
    check_table(prime, table)
    if not are_residues(prime, goal) or len(goal) != len(table):
        raise InvalidTable("not a residue for each line of the table")


def mixed(prime, factors, lines):
    """The lines, multiplied by a factor each, and added up."""
    return [sum([factor * entry for factor, entry in zip(factors, column)]) % prime for column in zip(*lines)]


def cleared(prime, number, steps, room, columns):
    """The entries of a packed line, made 0 in the columns of the steps by taking away their lines."""
    for column, line in steps:
        entry = unpacked_entry(prime, number, room, columns - 1 - column)
        if entry != 0:
            number = number + (prime - entry) * line
    return unpacked(prime, number, room, columns)


def steps_of(prime, lines, room):
    """The pairs of the first column and the packed line, ascending, of lines that begin with 1 in unlike columns."""
    columns = len(lines[0])
    steps = []
    for line in lines:
        entries = cleared(prime, packed(line, room), steps, room, columns)
        column = least_power(entries)
        if column is not None:
            inverse = residue_inverse(prime, entries[column])
            steps.append((column, packed([entry * inverse % prime for entry in entries], room)))
            steps = sorted(steps)
    return steps


def echelon_of_lines(prime, lines):
    """The echelon of lines of residues, however many and however long."""
    columns = len(lines[0])
    # To an entry, itself a residue, each step adds at most the square of the greatest residue.
    room = room_for((prime - 1) * (1 + (prime - 1) * min(len(lines), columns)))
    steps = steps_of(prime, lines, room)
    done = []
    found = []
    # From the last line on, so that what clears a line is clear itself.
    for column, number in reversed(steps):
        entries = cleared(prime, number, done, room, columns)
        done.append((column, packed(entries, room)))
        found.append(tuple(entries))
    return tuple(found[::-1])


def rank(prime, table):
    """The least number of lines of which all lines of the table are mixes."""
    check_table(prime, table)
    return len(echelon_of_lines(prime, table))


def echelon(prime, table):
    """The echelon with the mixes of the table."""
    check_table(prime, table)
    return echelon_of_lines(prime, table)


def kernel(prime, table):
    """The echelon of all that each line of the table makes 0."""
    check_table(prime, table)
    columns = len(table[0])
    # In the mirrored echelon each line begins behind what it tells of, so that the lines made of it begin with 1.
    lines = echelon_of_lines(prime, [line[::-1] for line in table])
    firsts = {least_power(line): line for line in lines}
    found = []
    for free in reversed(range(columns)):
        if free not in firsts:
            entries = [-firsts[column][free] % prime if column in firsts else 0 for column in range(columns)]
            entries[free] = 1
            found.append(tuple(entries[::-1]))
    return tuple(found)


def solution(prime, lines, goal):
    """A tuple with which the lines, entry by entry, make the entries of the goal, None if there is none."""
    columns = len(lines[0])
    entries = [0] * columns
    for line in echelon_of_lines(prime, [(*line, entry) for line, entry in zip(lines, goal)]):
        column = least_power(line)
        if column == columns:
            return None
        entries[column] = line[columns]
    return tuple(entries)


def solved(prime, table, goal):
    """A tuple with which the lines of the table make the entries of the goal, None if there is none."""
    check_goal(prime, table, goal)
    return solution(prime, table, goal)


def is_solved(prime, table, goal, value):
    """Whether the lines of the table make the entries of the goal with the value."""
    check_goal(prime, table, goal)
    if not are_residues(prime, value) or len(value) != len(table[0]):
        return False
    return mixed(prime, value, list(zip(*table))) == list(goal)


def bar_of(prime, table, goal):
    """A bar, None if there is none."""
    check_goal(prime, table, goal)
    columns = [list(column) for column in zip(*table)]
    # Each bar, multiplied by a residue, makes 1 of the goal.
    return solution(prime, columns + [list(goal)], [0] * len(columns) + [1])


def is_bar(prime, table, goal, value):
    """Whether the value is a bar."""
    check_goal(prime, table, goal)
    if not are_residues(prime, value) or len(value) != len(table):
        return False
    result = mixed(prime, value, [(*line, entry) for line, entry in zip(table, goal)])
    return result[-1] != 0 and not any(result[:-1])
