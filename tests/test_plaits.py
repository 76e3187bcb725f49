"""[0.21], [14.7] to [14.12], and touchtowers.plait.plaits."""

from itertools import combinations, permutations, product

from touchtowers.errors import InvalidCount, InvalidOrders, InvalidPlait, TooMany
from touchtowers.number.orders import are_generators, commons, lacked_by_orders, shares
from touchtowers.plait import plaits, polynomials
from touchtowers.plait.plaits import (by_plait, cabled, closed_strings, closing_polynomial, is_plait, links, plait_of,
                                      table_of_plait)
from touchtowers.plait.polynomials import by_orders, by_tree
from touchtowers.curve.curves import Curve
from tests.helpers import CUSP, NO_INTEGERS, SIXTY, SIXTY_ONE, PlainTest, numbers_made
from tests.test_orders import NO_GENERATORS
from tests.test_polynomials import times

EXAMPLES = """
>>> [plait_of((2, 3)), cabled((2, (0,)), 2, 1), len(plait_of((4, 6, 13))[1]), by_plait((4, 6, 13)) == by_orders((4, 6, 13)), plait_of((1,))]
[(2, (0, 0, 0)), (4, (1, 2, 0, 1, 0)), 19, True, (1, ())]
>>> [closed_strings((3, (0, 0, 1))), links((3, (0, 0, 1))), table_of_plait((2, (0,))), closing_polynomial((2, (0, 0))), closing_polynomial((3, (0, 1, 0, 1))), is_plait((2, (1,)))]
[((0,), (1, 2)), ((0, 1), (1, 0)), (((1, -1), (0, 1)), ((1,), ())), (1, -1), (1, -1, 1), False]
"""
NO_PLAITS = (None, True, 0, 1, "", "2", (), (1,), (2,), [], [2, (0,)], {2: (0,)}, (0, ()), (7, ()), (-1, ()), (True, ()), (False, ()),
             (True, (0,)), ("2", (0,)), (None, ()), ((2,), (0,)), (2, None), (2, 0), (2, [0]), (2, "0"), (2, {0: 0}), (1, (0,)), (2, (1,)),
             (2, (-1,)), (2, (0, 1)), (2, (True,)), (2, (False,)), (3, (0, True)), (2, ("0",)), (2, ((0,),)), (2, (None,)), (2, ([],)),
             (2, (0,), ()), ((2, (0,)),), (6, (5,)), (2, (0,) * 201), (6, (4,) * 1000), (2, (SIXTY,)), (3, (SIXTY_ONE,)), (SIXTY_ONE, ()), CUSP)


def some_plaits(many, most=6, long=12):
    """Plaits, the same at each run."""
    made = numbers_made(many + most, many * 30, 9973)
    found = [(1, ()), (2, ()), (6, ())]
    for at in range(many):
        strings = at % most + 1
        part = made[at * 30:at * 30 + (at * 7 % long if strings > 1 else 0)]
        found.append((strings, tuple(entry % (strings - 1) for entry in part)))
    return found


def plus(one, factor, other):
    size = max(len(one), len(other))
    entries = [(one[k] if k < len(one) else 0) + factor * (other[k] if k < len(other) else 0) for k in range(size)]
    while entries and entries[-1] == 0:
        entries.pop()
    return tuple(entries)


def naive_table(plait):
    """[14.8]: the product of crossing tables."""
    strings, crossings = plait
    found = [[(1,) if i == j else () for j in range(strings)] for i in range(strings)]
    for k in crossings:
        step = [[(1,) if i == j else () for j in range(strings)] for i in range(strings)]
        step[k][k], step[k][k + 1], step[k + 1][k], step[k + 1][k + 1] = (1, -1), (0, 1), (1,), ()
        longer = []
        for line in found:
            entries = []
            for j in range(strings):
                total = ()
                for i in range(strings):
                    total = plus(total, 1, times(line[i], step[i][j]))
                entries.append(total)
            longer.append(entries)
        found = longer
    return tuple(tuple(line) for line in found)


def naive_closing(plait):
    """[14.8]: the determinant over all permutations."""
    table, size = naive_table(plait), plait[0] - 1
    lines = [[plus((1,) if i == j else (), -1, table[i][j]) for j in range(1, size + 1)] for i in range(1, size + 1)]
    total = ()
    for order in permutations(range(size)):
        term = (1,)
        for line, column in zip(lines, order):
            term = times(term, line[column])
        swaps = sum(order[i] > order[j] for i, j in combinations(range(size), 2))
        total = plus(total, (-1) ** swaps, term)
    return total


def naive_strings(plait):
    """[14.7]: the closed strings, and the links."""
    strings, crossings = plait
    at, pairs = list(range(strings)), []
    for k in crossings:
        pairs.append({at[k], at[k + 1]})
        at[k], at[k + 1] = at[k + 1], at[k]
    groups = [{string} for string in range(strings)]
    for place, string in enumerate(at):
        # The string that ends here goes on as the one that begins here.
        one, other = [next(group for group in groups if member in group) for member in (place, string)]
        if one != other:
            groups = [group for group in groups if group not in (one, other)] + [one | other]
    closed = sorted(tuple(sorted(group)) for group in groups)
    many = [[sum(len(pair & set(one)) == len(pair & set(other)) == 1 for pair in pairs) if one != other else 0
             for other in closed] for one in closed]
    return tuple(closed), many


def value_at_one(polynomial, many):
    """The value at 1 behind so many divisions by 1 - T, None if one of them leaves something."""
    for _ in range(many):
        if sum(polynomial) != 0:
            return None
        polynomial = [sum(polynomial[:place + 1]) for place in range(len(polynomial) - 1)]
    return sum(polynomial)


def joined_links(table):
    """The sum over all choices of pairs that join all closed strings."""
    total, size = 0, len(table)
    for pairs in combinations(list(combinations(range(size), 2)), size - 1):
        reached, weight = {0}, 1
        for _ in range(size):
            reached |= {other for pair in pairs if set(pair) & reached for other in pair}
        for i, j in pairs:
            weight *= table[i][j]
        total += weight if len(reached) == size else 0
    return total


class PlaitTest(PlainTest):

    def test_examples(self):
        self.examples(EXAMPLES, dict(vars(plaits), by_orders=polynomials.by_orders))

    def test_constants(self):
        self.same([plaits.MAX_STRINGS, plaits.MAX_CROSSINGS], [6, 200])

    def test_judged(self):
        right = ((1, ()), (6, ()), (2, (0,) * 200), (6, (0, 1, 2, 3, 4)), (3, (1, 0, 1)))
        self.judges(is_plait, (), right, NO_PLAITS)

    def test_strings_and_links(self):
        for plait in some_plaits(60) + [(strings, crossings) for strings in (2, 3) for many in range(5)
                                        for crossings in product(range(strings - 1), repeat=many)]:
            closed, many = naive_strings(plait)
            self.same(closed_strings(plait), closed)
            self.assertTrue(all(entry % 2 == 0 for line in many for entry in line))
            self.same(links(plait), tuple(tuple(entry // 2 for entry in line) for line in many))
        self.same([closed_strings((6, ())), links((3, ())), closed_strings((1, ())), links((1, ()))],
                  [((0,), (1,), (2,), (3,), (4,), (5,)), ((0, 0, 0),) * 3, ((0,),), ((0,),)])
        self.same([closed_strings((6, (0, 1, 2, 3, 4))), links((2, (0,) * 200)), closed_strings((2, (0,) * 199))],
                  [((0, 1, 2, 3, 4, 5),), ((0, 100), (100, 0)), ((0, 1),)])
        self.same(closed_strings((4, (1, 0, 2))), ((0, 1, 2, 3),))

    def test_tables(self):
        for plait in some_plaits(40) + [(6, (4, 3, 2, 1, 0) * 3), (2, (0,) * 9)]:
            table = table_of_plait(plait)
            self.same(table, naive_table(plait))
            for line in table:
                # [14.8]
                total = ()
                for entry in line:
                    total = plus(total, 1, entry)
                self.same(total, (1,))
        self.same(table_of_plait((1, ())), (((1,),),))
        self.same(table_of_plait((3, ())), (((1,), (), ()), ((), (1,), ()), ((), (), (1,))))

    def test_closing_polynomials(self):
        for plait in some_plaits(40) + [(2, (0,) * many) for many in range(8)]:
            self.same(closing_polynomial(plait), naive_closing(plait))
        self.same([closing_polynomial((1, ())), closing_polynomial((2, ())), closing_polynomial((6, ())), closing_polynomial((2, (0,)))],
                  [(1,), (), (), (1,)])
        self.same(closing_polynomial((2, (0,) * 200)), tuple((-1) ** k for k in range(200)))
        self.same(len(closing_polynomial((6, (0, 1, 2, 3, 4) * 40))), 196)

    def test_changes(self):
        # [14.9]
        for strings, crossings in some_plaits(60, 6, 20):
            wanted = closing_polynomial((strings, crossings))
            self.same(closing_polynomial((strings, crossings[1:] + crossings[:1])), wanted)
            if strings < 6:
                self.same(closing_polynomial((strings + 1, crossings + (strings - 1,))), wanted)
            for at in range(len(crossings) - 1):
                one, other = crossings[at:at + 2]
                if abs(one - other) > 1:
                    self.same(closing_polynomial((strings, crossings[:at] + (other, one) + crossings[at + 2:])), wanted)
            if strings > 2:
                for at in range(len(crossings) + 1):
                    low, high = [(strings, crossings[:at] + part + crossings[at:]) for part in ((0, 1, 0), (1, 0, 1))]
                    self.same(closing_polynomial(low), closing_polynomial(high))

    def test_values_at_one(self):
        # [14.9]
        for plait in some_plaits(80, 6, 24) + [(4, (0, 0, 1, 1, 2, 2)), (3, (0, 0, 1, 1, 1, 1)), (4, (0, 0, 2, 2)), (3, (0, 0))]:
            many = len(closed_strings(plait))
            self.same(value_at_one(closing_polynomial(plait), many - 1), joined_links(links(plait)))
        self.same(joined_links(links((3, (0, 0, 1, 1, 1, 1)))), 2)

    def test_not_true(self):
        # [14.12]
        one, other = (2, ()), (4, (0, 2))
        self.same([closing_polynomial(one), closing_polynomial(other), len(closed_strings((3, ())))], [(), (), 3])
        self.same(closing_polynomial((3, ())), closing_polynomial(one))
        self.same([table_of_plait((3, (0, 1, 0))) == table_of_plait((3, (1, 0, 1)))], [True])

    def test_refuse(self):
        for call in (closed_strings, links, table_of_plait, closing_polynomial):
            self.refused(InvalidPlait, call, ((1, ()),), 0, NO_PLAITS)


class CablingTest(PlainTest):

    def test_cabled(self):
        for strings, crossings in some_plaits(40, 3, 6):
            for many in range(1, 6 // strings + 1):
                for twists in (0, 1, 3):
                    wanted = [(k + 1) * many - 1 - i + j for k in crossings for i in range(many) for j in range(many)]
                    for _ in range(twists):
                        wanted.extend(range(many - 1))
                    self.same(cabled((strings, crossings), many, twists), (strings * many, tuple(wanted)))

    def test_cabled_strings(self):
        # All strings of one string cross those of another one where these cross.
        self.same(cabled((2, (0,)), 2, 0), (4, (1, 2, 0, 1)))
        self.same(cabled((2, (0,)), 3, 0), (6, (2, 3, 4, 1, 2, 3, 0, 1, 2)))
        for strings, crossings in some_plaits(20, 3, 6):
            many = 6 // strings
            self.same(closed_strings(cabled((strings, crossings), many, 0)),
                      tuple(sorted(tuple(place * many + k for place in closed) for closed in closed_strings((strings, crossings))
                                   for k in range(many))))

    def test_by_one_and_without_twists(self):
        for plait in some_plaits(20):
            for twists in (0, 1, 200):
                self.same(cabled(plait, 1, twists), plait)
        self.same([cabled((1, ()), 6, 0), cabled((1, ()), 2, 200), cabled((1, ()), 6, 40)],
                  [(6, ()), (2, (0,) * 200), (6, (0, 1, 2, 3, 4) * 40)])

    def test_limits(self):
        self.raised(TooMany(6), cabled, (2, ()), 4, 0)
        self.raised(TooMany(6), cabled, (6, ()), 2, 0)
        self.raised(TooMany(6), cabled, (6, (0,) * 200), 6, 200)
        self.raised(TooMany(200), cabled, (1, ()), 3, 101)
        self.raised(TooMany(200), cabled, (2, (0,) * 51), 2, 0)
        self.raised(TooMany(200), cabled, (2, (0,) * 50), 2, 1)
        self.same(len(cabled((2, (0,) * 50), 2, 0)[1]), 200)
        for value in NO_INTEGERS + (0, -1, 7, SIXTY):
            self.raised(InvalidCount, cabled, (6, (0,)), value, None)
        self.refused(InvalidCount, cabled, ((1, ()), 1, 0), 1, NO_INTEGERS + (0, -1, 7, SIXTY, -SIXTY))
        self.refused(InvalidCount, cabled, ((1, ()), 1, 0), 2, NO_INTEGERS + (-1, 201, SIXTY, -SIXTY))
        # More strings than there can be, told behind a wrong number of twists.
        self.refused(InvalidCount, cabled, ((6, ()), 6, 0), 2, NO_INTEGERS + (-1, 201))
        self.refused(InvalidPlait, cabled, ((1, ()), 1, 0), 0, NO_PLAITS)
        self.refused(InvalidPlait, cabled, ((1, ()), None, None), 0, NO_PLAITS)

    def test_plaits_of_generators(self):
        # [14.11], [0.21]
        found = [numbers for size in (1, 2, 3) for numbers in combinations(range(1, 34), size) if are_generators(numbers)]
        found = [numbers for numbers in found if numbers[0] <= 6 and 2 * lacked_by_orders(numbers) + numbers[0] - 1 <= 60]
        self.assertGreater(len(found), 60)
        for numbers in found:
            plait = plait_of(numbers)
            self.assertIs(is_plait(plait), True)
            self.same([plait[0], len(plait[1])], [numbers[0], 2 * lacked_by_orders(numbers) + numbers[0] - 1])
            self.same(closed_strings(plait), (tuple(range(numbers[0])),))
            self.same(closing_polynomial(plait), by_orders(numbers))
            self.same(by_plait(numbers), by_orders(numbers))

    def test_steps(self):
        # [14.11], word by word.
        for numbers in ((1,), (2, 9), (6, 7), (4, 6, 15), (6, 8, 27), (6, 9, 20), (4, 10, 21)):
            plait = (1, ())
            for share, number, common in zip(shares(numbers), numbers[1:], commons(numbers)[1:]):
                self.assertGreater(number // common - share * len(plait[1]), 0)
                plait = cabled(plait, share, number // common - share * len(plait[1]))
            self.same(plait_of(numbers), plait)
        self.same([by_plait((1,)), by_plait((2, 3)) == by_tree(Curve((CUSP,)))], [(1,), True])

    def test_limits_of_generators(self):
        self.same([len(plait_of((2, 199))[1]), len(plait_of((3, 100))[1]), len(plait_of((5, 49))[1]), len(plait_of((6, 37))[1])],
                  [199, 200, 196, 185])
        self.same(by_plait((3, 100)), by_orders((3, 100)))
        self.same(by_plait((6, 37)), by_orders((6, 37)))
        for numbers in ((2, 201), (3, 101), (6, 41), (2, SIXTY)):
            self.raised(TooMany(200), plait_of, numbers)
            self.raised(TooMany(200), by_plait, numbers)
        for numbers in ((7, 8), (7, 500), (8, 12, 26, 53), (SIXTY - 1, SIXTY)):
            self.raised(TooMany(6), plait_of, numbers)
            self.raised(TooMany(6), by_plait, numbers)
        for call in (plait_of, by_plait):
            self.refused(InvalidOrders, call, ((2, 3),), 0, NO_GENERATORS)
