"""[0.2], [0.4], [16.1] to [16.4], and touchtowers.use.bench."""

from touchtowers.curve.curves import Curve
from touchtowers.curve.matchings import matching
from touchtowers.errors import (InvalidCount, InvalidCurve, InvalidOperation, InvalidPrime, InvalidWeights, InvalidWord,
                                NothingToUndo, Refused, TooMany, UnknownName)
from touchtowers.tower.touches import touch
from touchtowers.use import bench as module
from touchtowers.use.bench import Bench, is_pledge
from touchtowers.weight.unloading import unloaded
from touchtowers.weight.weights import Weights
from touchtowers.word.words import Branch
from tests.helpers import (BOW, CUSP, DEEP, FEW_PRIMES, FOUR, HOOK, LINE, NO_INTEGERS, SIDE, SIXTY, SIXTY_ONE, STEEP, TALL, WILD,
                           PlainTest, numbers_made)
from tests.test_curves import NO_CURVES, SIX
from tests.test_ways import NO_BRANCHES
from tests.test_weights import CUSPED, LONG_CHAIN, NO_WEIGHTS

EXAMPLES = """
>>> bench, kept = Bench(3), ("lacked", "one", 4)
>>> [bench.put("one", Curve((LINE, CUSP))), bench.demand(kept), bench.lines, str(bench)]
[((), ('curve one: ., 0 t 1',)), ((), ()), ('prime 3', 'curve one: ., 0 t 1'), 'bench over 3 of 1 curves, 0 weights, 1 pledges']
>>> bench.grow("one", SIDE)
raises Refused(("lacked", "one", 4))
>>> [bench.load("w", Weights(3, {(): 1, (0,): 2})), bench.unload("w"), bench.names, bench.changes]
[((), ('weights w: . 1, 0 2',)), (('weights w: . 1, 0 2',), ('weights w: . 2, 0 1',)), ('one', 'w'), 4]
>>> [bench.waive(kept), bench.prune("one", CUSP), bench.undo(many=2)]
[((), ()), (('curve one: ., 0 t 1',), ('curve one: .',)), (('curve one: .',), ('curve one: ., 0 t 1',))]
>>> bench.demand(("touch", "one", "one", 3))
raises Refused(("touch", "one", "one", 3))
>>> bench.demand(("let", "w")), bench.demand(("conditions", "w", 4)), len(bench)
(((), ()), ((), ()), 3)
"""
NO_NAMES = (None, True, 0, "", "One", "one two", "o1", "abcdefghi", "a" * 4000, " a", (), ("one",), [], ["one"], {}, {"one": 1}, CUSP,
            InvalidPrime("x"), SIXTY_ONE)
BOTH, PAIR, ALONE = Curve((LINE, CUSP)), Curve((CUSP, HOOK)), Curve((SIDE,))
BARE, LET = Weights(3, {(): 1, (0,): 2}), Weights(3, {(): 2, (0,): 1})
RIGHT_PLEDGES = (("branches", "one", 2), ("branches", "a", -7), ("lacked", "abcdefgh", SIXTY), ("touch", "one", "two", 3), ("touch", "a", "a", 0),
                 ("alike", "one", "two"), ("alike", "a", "a"), ("let", "w"), ("conditions", "w", 4), ("conditions", "w", -SIXTY))
NO_PLEDGES = (None, True, 0, "", "let", (), ("let",), ("let", "w", 1), ("let", "W"), ("let", ""), ("let", None), ("let", ("w",)), ("let", ["w"]),
              ["let", "w"], {"let": "w"}, ("branches", "one"), ("branches", "one", True), ("branches", "one", False), ("branches", "one", "2"),
              ("branches", "one", None), ("branches", "one", (2,)), ("branches", "one", [2]), ("branches", "one", SIXTY_ONE), ("branches", 2, "one"),
              ("branches", "one", "two", 3), ("lacked", "abcdefghi", 1), ("lacked", "one", 1, 1), ("touch", "one", "two"), ("touch", "one", 3),
              ("touch", "one", "two", True), ("touch", "one", 2, "two"), ("touch", "one", "two", 3, 3), ("alike", "one"), ("alike", "one", "two", 1),
              ("alike", "one", 1), ("conditions", "w"), ("conditions", "w", {}), ("weights", "w"), ("Let", "w"), (True, "w"), (["let"], "w"),
              (("let",), "w"), ({}, "w"), (None,), (CUSP, "w"), ("let", CUSP), (("let", "w"),), CUSP, BOTH)


def bench_of(prime=3):
    """A bench with curves, weights and pledges, and with some changes."""
    bench = Bench(prime)
    if prime == 3:
        bench.put("both", BOTH)
        bench.put("pair", PAIR)
        bench.load("bare", BARE)
        bench.load("let", LET)
        bench.demand(("lacked", "both", 4))
        bench.demand(("let", "let"))
    return bench


def seen(bench):
    """All that can be seen of a bench, and of what it takes back and does again."""
    found = [bench.prime, bench.names, bench.lines, bench.pledges, bench.changes, len(bench), str(bench), list(bench)]
    with bench.trial():
        found.append([(bench.undo(), bench.lines, bench.pledges) for _ in range(bench.changes)])
    with bench.trial():
        found.append([(bench.redo(), bench.lines, bench.pledges) for _ in range(redos(bench))])
    return found


def redos(bench):
    """How many changes can be done again."""
    many = 0
    with bench.trial():
        try:
            while True:
                bench.redo()
                many += 1
        except NothingToUndo:
            return many


def naive_lines(prime, curves, weights):
    """[16.1]"""
    def text(point):
        return " ".join("t" if letter == -1 else str(letter) for letter in point) or "."
    found = [f"prime {prime}"]
    for name in sorted(curves):
        found.append(f"curve {name}: " + ", ".join(text(branch.word) for branch in curves[name].branches))
    for name in sorted(weights):
        found.append(f"weights {name}: " + ", ".join(f"{text(point)} {many}" for point, many in sorted(weights[name].table.items())))
    return tuple(found)


def naive_holds(curves, weights, pledge):
    """[16.3]"""
    kind, name, *rest = pledge
    if kind in ("let", "conditions"):
        if name not in weights:
            return False
        return weights[name].is_let if kind == "let" else weights[name].conditions == rest[0]
    if name not in curves or (kind in ("touch", "alike") and rest[0] not in curves):
        return False
    if kind == "branches":
        return len(curves[name]) == rest[0]
    if kind == "lacked":
        return curves[name].lacked == rest[0]
    if kind == "alike":
        return matching(curves[name], curves[rest[0]]) is not None
    pairs = [(one, other) for one in curves[name].branches for other in curves[rest[0]].branches]
    return all(one != other for one, other in pairs) and sum(touch(one, other) for one, other in pairs) == rest[1]


class Model:
    """A bench by a list of its states, each of them a triple of two dicts and a tuple."""

    def __init__(self, prime):
        self.prime, self.states, self.at = prime, [({}, {}, ())], 0

    def lines(self):
        return naive_lines(self.prime, *self.states[self.at][:2])

    def news(self, before):
        after = self.lines()
        return (tuple(sorted(set(before) - set(after))), tuple(sorted(set(after) - set(before))))

    def change(self, curves, weights, pledges):
        for pledge in pledges:
            if not naive_holds(curves, weights, pledge):
                return Refused(pledge)
        before = self.lines()
        self.states = self.states[:self.at + 1] + [(curves, weights, pledges)]
        self.at += 1
        return self.news(before)

    def move(self, many):
        if not 0 <= self.at + many < len(self.states):
            return NothingToUndo(abs(many))
        before = self.lines()
        self.at += many
        return self.news(before)


class BenchTest(PlainTest):

    def test_examples(self):
        self.examples(EXAMPLES, dict(vars(module), Curve=Curve, Weights=Weights))

    def test_constants(self):
        self.same([module.MAX_CURVES, module.MAX_WEIGHTS, module.MAX_PLEDGES], [6, 6, 10])

    def unchanged(self, wanted, bench, name, *passed, **named):
        """The call raises the error, and leaves the bench as it was."""
        before = seen(bench)
        self.raised(wanted, getattr(bench, name), *passed, **named)
        self.same(seen(bench), before)

    def test_empty(self):
        for prime in FEW_PRIMES:
            bench = Bench(prime)
            self.same([bench.prime, bench.names, bench.lines, bench.pledges, bench.changes, len(bench), list(bench), str(bench)],
                      [prime, (), (f"prime {prime}",), (), 0, 0, [f"prime {prime}"], f"bench over {prime} of 0 curves, 0 weights, 0 pledges"])
            self.same([bench.rename({}), bench.undo(many=0), bench.redo(many=0), bench.changes], [((), ())] * 3 + [1])
        self.refuses_primes(Bench)
        for name in ("prime", "names", "lines", "pledges", "changes"):
            with self.assertRaises(AttributeError):
                setattr(Bench(3), name, ())

    def test_lines(self):
        bench = Bench(11)
        wide = Curve((Branch(11, (10, -1, 10)), Branch(11, ()), Branch(11, (-1,)), Branch(11, (0, -1, 1))))
        self.same(bench.put("b", wide), ((), ("curve b: ., t, 0 t 1, 10 t 10",)))
        self.same(bench.load("a", Weights(11, {(): -SIXTY, (10,): 0, (-1,): 7, (10, -1): 3})),
                  ((), (f"weights a: . {-SIXTY}, t 7, 10 0, 10 t 3",)))
        self.same(bench.put("c", Curve((Branch(11, (1,)),))), ((), ("curve c: 1",)))
        self.same(bench.lines, ("prime 11", "curve b: ., t, 0 t 1, 10 t 10", "curve c: 1", f"weights a: . {-SIXTY}, t 7, 10 0, 10 t 3"))
        self.same([bench.names, str(bench)], [("a", "b", "c"), "bench over 11 of 2 curves, 1 weights, 0 pledges"])
        self.same(bench.rename({"a": "c", "b": "a", "c": "b"}),
                  (("curve b: ., t, 0 t 1, 10 t 10", "curve c: 1", f"weights a: . {-SIXTY}, t 7, 10 0, 10 t 3"),
                   ("curve a: ., t, 0 t 1, 10 t 10", "curve b: 1", f"weights c: . {-SIXTY}, t 7, 10 0, 10 t 3")))

    def test_put_and_load(self):
        bench = bench_of()
        self.same([bench.curve_named("both") == BOTH, bench.weights_named("bare") == BARE], [True, True])
        for name in NO_NAMES + ("both", "bare", "let"):
            self.unchanged(InvalidOperation, bench, "put", name, ALONE)
            self.unchanged(InvalidOperation, bench, "put", name, None)
            self.unchanged(InvalidOperation, bench, "load", name, LET)
            self.unchanged(InvalidOperation, bench, "load", name, None)
        for value in NO_CURVES:
            self.unchanged(InvalidCurve, bench, "put", "new", value)
        for value in NO_WEIGHTS:
            self.unchanged(InvalidWeights, bench, "load", "new", value)
        self.unchanged(InvalidOperation, bench, "put", "new", Curve((WILD,)))
        self.unchanged(InvalidOperation, bench, "load", "new", Weights(2, {(): 1}))

    def test_six_of_each(self):
        bench = Bench(3)
        for at in range(6):
            bench.put("c" + "abcdef"[at], Curve(SIX[at:]))
            bench.load("w" + "abcdef"[at], Weights(3, {(): at}))
        self.same([len(bench.names), len(bench.lines)], [12, 13])
        self.unchanged(TooMany(6), bench, "put", "new", ALONE)
        self.unchanged(TooMany(6), bench, "load", "new", LET)
        self.unchanged(InvalidOperation, bench, "put", "new", Curve((WILD,)))
        self.unchanged(InvalidOperation, bench, "load", "new", Weights(2, {(): 1}))
        self.unchanged(InvalidOperation, bench, "put", "ca", ALONE)
        self.unchanged(TooMany(6), bench, "blend", "new", "wa", "wb")
        self.unchanged(UnknownName("ca"), bench, "blend", "new", "wa", "ca")
        self.unchanged(TooMany(6), bench, "grow", "ca", TALL)
        bench.drop("ca"), bench.drop("wf")
        self.same([bench.put("new", ALONE), bench.blend("sum", "wd", "we")], [((), ("curve new: t",)), ((), ("weights sum: . 7",))])

    def test_grow_and_prune(self):
        for curve in (BOTH, PAIR, ALONE):
            for branch in (BOW, FOUR, STEEP, DEEP):
                bench = Bench(3)
                bench.put("one", curve)
                before = bench.curve_named("one")
                bench.grow("one", branch)
                after = bench.curve_named("one")
                self.assertEqual(after, curve.with_branch(branch))
                # [16.4]
                told = Curve((branch,)).lacked + sum(touch(branch, other) for other in curve.branches)
                self.same(after.lacked - before.lacked, told)
                bench.prune("one", branch)
                self.assertEqual(bench.curve_named("one"), before)
                self.same(bench.changes, 3)
        bench = bench_of()
        for name in ("grow", "prune"):
            for value in NO_NAMES + ("new", "bare", "let"):
                self.unchanged(UnknownName(value), bench, name, value, BOW)
                self.unchanged(UnknownName(value), bench, name, value, None)
            for value in NO_BRANCHES:
                self.unchanged(InvalidWord, bench, name, "both", value)
            self.unchanged(InvalidOperation, bench, name, "both", WILD)
        self.unchanged(InvalidOperation, bench, "grow", "both", LINE)
        self.unchanged(InvalidOperation, bench, "prune", "both", SIDE)
        bench.put("alone", ALONE)
        self.unchanged(InvalidOperation, bench, "prune", "alone", SIDE)
        self.unchanged(InvalidOperation, bench, "prune", "alone", LINE)
        six = Bench(3)
        six.put("six", Curve(SIX))
        self.unchanged(InvalidOperation, six, "grow", "six", LINE)
        self.unchanged(InvalidOperation, six, "grow", "six", WILD)
        self.unchanged(TooMany(6), six, "grow", "six", TALL)

    def test_blend_and_unload(self):
        bench = bench_of()
        self.same(bench.blend("sum", "bare", "let"), ((), ("weights sum: . 3, 0 3",)))
        self.same(bench.blend("more", "sum", "sum"), ((), ("weights more: . 6, 0 6",)))
        self.assertEqual(bench.weights_named("more"), BARE.plus(LET).plus(BARE.plus(LET)))
        for value in NO_NAMES + ("both", "sum"):
            self.unchanged(InvalidOperation, bench, "blend", value, "bare", "let")
            self.unchanged(InvalidOperation, bench, "blend", value, None, None)
        for value in NO_NAMES + ("both", "new"):
            self.unchanged(UnknownName(value), bench, "blend", "new", value, "let")
            self.unchanged(UnknownName(value), bench, "blend", "new", value, None)
            self.unchanged(UnknownName(value), bench, "blend", "new", "let", value)
            self.unchanged(UnknownName(value), bench, "unload", value)
        bench.load("long", Weights(3, LONG_CHAIN)), bench.load("far", Weights(3, {(): 1, (1,): 1}))
        self.unchanged(TooMany(6), bench, "blend", "new", "long", "far")
        bench.drop("sum")
        self.unchanged(TooMany(60), bench, "blend", "new", "long", "far")
        # [16.4]
        for name in ("more", "let", "far"):
            before = bench.weights_named(name)
            news = bench.unload(name)
            self.same([bench.weights_named(name) == unloaded(before), bench.weights_named(name).is_let], [True, True])
            self.assertIs(news == ((), ()), before.is_let)
        self.unchanged(TooMany(10), bench, "unload", "long")
        great = Bench(2)
        great.load("a", Weights(2, {(): 201}))
        great.load("b", Weights(2, {(): -200}))
        self.unchanged(TooMany(200), great, "unload", "a")
        self.same(great.unload("b"), (("weights b: . -200",), ("weights b: . 0",)))
        for _ in range(300):
            great.blend("c", "a", "a"), great.drop("a"), great.rename({"b": "b", "c": "a"})
        self.same(great.lines[1], f"weights a: . {201 * 2 ** 300}")
        self.assertIs(great.weights_named("a").at(()) == 201 * 2 ** 300, True)

    def test_drop_and_rename(self):
        bench = bench_of()
        for value in NO_NAMES + ("new",):
            self.unchanged(UnknownName(value), bench, "drop", value)
        self.unchanged(Refused(("lacked", "both", 4)), bench, "drop", "both")
        self.unchanged(Refused(("let", "let")), bench, "drop", "let")
        self.same([bench.drop("pair"), bench.drop("bare"), bench.names], [(("curve pair: 0 t 1, 0 t 2",), ()), (("weights bare: . 1, 0 2",), ()), ("both", "let")])
        for value in (None, True, 0, "", "both", (), ("both", "let"), [], {}, {"both": "a"}, {"both": "a", "let": "a"}, {"both": "a", "let": "B"},
                      {"both": "a", "let": ""}, {"both": "a", "let": None}, {"both": "a", "let": ["b"]}, {"both": "a", "new": "b"}, {"both": "let", "let": "let"},
                      {"both": "a", "let": "b", "new": "c"}, {"both": "a", "let": "b", 1: "c"}, {"both": "a", ("let",): "b"}, {"both": "a", None: "b"},
                      {"both": "both", "let": "both"}, {"a": "both", "b": "let"}, (("both", "a"), ("let", "b")), {"both": "a", "let": "abcdefghi"}, BOTH):
            self.unchanged(InvalidOperation, bench, "rename", value)
        self.unchanged(Refused(("lacked", "both", 4)), bench, "rename", {"both": "let", "let": "both"})
        self.unchanged(Refused(("let", "let")), bench, "rename", {"both": "both", "let": "new"})
        self.same([bench.rename({"let": "let", "both": "both"}), bench.pledges], [((), ()), (("lacked", "both", 4), ("let", "let"))])
        bench.waive(("let", "let")), bench.waive(("lacked", "both", 4))
        self.same(bench.rename({"both": "let", "let": "both"}),
                  (("curve both: ., 0 t 1", "weights let: . 2, 0 1"), ("curve let: ., 0 t 1", "weights both: . 2, 0 1")))

    def test_names_refuse(self):
        bench = bench_of()
        for value in NO_NAMES + ("new",):
            self.unchanged(UnknownName(value), bench, "curve_named", value)
            self.unchanged(UnknownName(value), bench, "weights_named", value)
        self.unchanged(UnknownName("let"), bench, "curve_named", "let")
        self.unchanged(UnknownName("both"), bench, "weights_named", "both")

    def test_arguments_stay(self):
        bench, names = bench_of(), {"both": "a", "pair": "b", "bare": "c", "let": "d"}
        bench.waive(("lacked", "both", 4)), bench.waive(("let", "let"))
        bench.rename(names)
        self.same(names, {"both": "a", "pair": "b", "bare": "c", "let": "d"})
        names["both"] = "z"
        self.same(bench.names, ("a", "b", "c", "d"))


class PledgeTest(PlainTest):

    unchanged = BenchTest.unchanged

    def test_judged(self):
        self.judges(is_pledge, (), RIGHT_PLEDGES, NO_PLEDGES)

    def test_pledges_that_hold(self):
        bench = Bench(3)
        bench.put("one", BOTH), bench.put("two", Curve((Branch(3, (0, 2)), CUSP))), bench.put("side", ALONE), bench.put("pair", PAIR)
        bench.load("bare", BARE), bench.load("cusped", CUSPED)
        right = [("branches", "one", 2), ("branches", "side", 1), ("lacked", "one", 4), ("lacked", "side", 0), ("touch", "one", "side", 3),
                 ("touch", "side", "pair", 4), ("alike", "one", "two"), ("alike", "pair", "pair"), ("let", "cusped"), ("conditions", "cusped", 5),
                 ("conditions", "bare", 4)]
        wrong = [("branches", "one", 1), ("lacked", "one", 3), ("touch", "one", "side", 2), ("touch", "one", "two", 8), ("touch", "one", "one", 0),
                 ("alike", "one", "pair"), ("alike", "one", "side"), ("let", "bare"), ("conditions", "bare", 3), ("branches", "new", 1),
                 ("lacked", "bare", 0), ("let", "one"), ("let", "new"), ("conditions", "one", 4), ("alike", "one", "new"), ("alike", "new", "one"),
                 ("touch", "one", "bare", 0), ("touch", "new", "new", 0), ("branches", "one", 0), ("branches", "one", -2), ("touch", "side", "one", 0)]
        curves = {name: bench.curve_named(name) for name in ("one", "two", "side", "pair")}
        weights = {name: bench.weights_named(name) for name in ("bare", "cusped")}
        for pledge in right + wrong:
            self.assertIs(naive_holds(curves, weights, pledge), pledge in right)
        for pledge in wrong:
            self.unchanged(Refused(pledge), bench, "demand", pledge)
        for at, pledge in enumerate(right[:10]):
            for other in wrong[:3]:
                self.unchanged(Refused(other), bench, "demand", other)
            self.same([bench.demand(pledge), len(bench), bench.pledges], [((), ()), at + 1, tuple(right[:at + 1])])
            self.unchanged(InvalidOperation, bench, "demand", pledge)
        self.unchanged(TooMany(10), bench, "demand", right[10])
        self.unchanged(TooMany(10), bench, "demand", wrong[0])
        self.unchanged(InvalidOperation, bench, "demand", right[0])
        self.unchanged(InvalidOperation, bench, "demand", None)
        self.same([bench.waive(right[3]), bench.pledges], [((), ()), tuple(right[:3] + right[4:10])])
        self.same([bench.demand(right[10]), bench.pledges[-1], bench.undo(many=2), bench.pledges], [((), ()), right[10], ((), ()), tuple(right[:10])])

    def test_refuse(self):
        bench = bench_of()
        for value in NO_PLEDGES:
            self.unchanged(InvalidOperation, bench, "demand", value)
            self.unchanged(InvalidOperation, bench, "waive", value)
        for value in (("lacked", "both", 3), ("lacked", "pair", 8), ("let", "bare"), ("branches", "both", 2)):
            self.unchanged(InvalidOperation, bench, "waive", value)
        one = Bench(3)
        one.put("one", ALONE), one.demand(("branches", "one", 1))
        self.unchanged(InvalidOperation, one, "waive", ("branches", "one", True))
        self.unchanged(InvalidOperation, one, "demand", ("branches", "one", True))

    def test_first_one_that_would_not_hold(self):
        bench = Bench(3)
        bench.put("one", BOTH), bench.put("two", ALONE)
        for pledge in (("branches", "one", 2), ("touch", "one", "two", 3), ("lacked", "one", 4)):
            bench.demand(pledge)
        self.unchanged(Refused(("branches", "one", 2)), bench, "grow", "one", BOW)
        self.unchanged(Refused(("touch", "one", "two", 3)), bench, "grow", "two", HOOK)
        self.unchanged(Refused(("branches", "one", 2)), bench, "drop", "one")
        self.unchanged(Refused(("touch", "one", "two", 3)), bench, "drop", "two")
        self.unchanged(Refused(("branches", "one", 2)), bench, "prune", "one", CUSP)
        bench.waive(("branches", "one", 2))
        self.unchanged(Refused(("touch", "one", "two", 3)), bench, "grow", "one", BOW)
        bench.waive(("touch", "one", "two", 3))
        self.unchanged(Refused(("lacked", "one", 4)), bench, "grow", "one", BOW)
        # Errors of its own come ahead of what would not hold.
        self.unchanged(InvalidOperation, bench, "grow", "one", CUSP)
        bench.demand(("branches", "one", 2))
        bench.load("w", LET), bench.demand(("let", "w"))
        self.same([bench.unload("w"), bench.put("three", PAIR), bench.load("v", BARE)], [((), ()), ((), ("curve three: 0 t 1, 0 t 2",)), ((), ("weights v: . 1, 0 2",))])
        self.unchanged(Refused(("lacked", "one", 4)), bench, "rename", {"one": "one", "two": "two", "three": "three", "w": "v", "v": "w"} | {"one": "two", "two": "one"})
        self.unchanged(Refused(("let", "w")), bench, "rename", {"one": "one", "two": "two", "three": "three", "w": "v", "v": "w"})

    def test_members_and_equality(self):
        bench = bench_of()
        right = bench.lines + bench.pledges
        wrong = NO_PLEDGES + ("prime 2", "prime", "curve both", "both", ("prime 3",), ["prime 3"], ("lacked", "both", 3), ("let", "bare"), bench)
        self.judges(lambda value: value in bench, (), right, wrong)
        one = Bench(3)
        one.put("one", ALONE), one.demand(("branches", "one", 1))
        self.judges(lambda value: value in one, (), (("branches", "one", 1),), (("branches", "one", True), 1, True, ("branches", "one", 1, 1)))
        found = [Bench(2), Bench(3), bench_of(), one]
        for name, passed in (("drop", ("pair",)), ("waive", (("let", "let"),)), ("demand", (("branches", "both", 2),)), ("grow", ("pair", LINE)),
                             ("unload", ("bare",))):
            found.append(bench_of())
            getattr(found[-1], name)(*passed)
        for at, first in enumerate(found):
            for other_at, second in enumerate(found):
                self.assertIs(first == second, at == other_at)
                self.assertIs(first != second, at != other_at)
            for value in (None, True, 0, "", "prime 3", (), [], {}, first.lines, LINE, BOTH):
                self.assertIs(first == value, False)
                self.assertIs(first != value, True)
        # The sequence of changes does not matter, but that of the pledges does.
        other = Bench(3)
        other.load("let", LET), other.put("pair", PAIR), other.load("bare", BARE), other.put("both", BOTH)
        self.assertIs(other == bench_of(), False)
        other.demand(("let", "let")), other.demand(("lacked", "both", 4))
        self.assertIs(other == bench_of(), False)
        other.waive(("let", "let")), other.demand(("let", "let"))
        self.assertIs(other == bench_of(), True)
        self.assertIs(bench == Bench(3), False)


class HistoryTest(PlainTest):

    unchanged = BenchTest.unchanged

    def test_undo_and_redo(self):
        bench = bench_of()
        self.same(bench.changes, 6)
        states = [seen(bench)]
        first = bench.lines
        for many in range(6):
            bench.undo()
            states.append(seen(bench))
        self.same([bench.changes, bench.lines, bench.pledges], [0, ("prime 3",), ()])
        self.unchanged(NothingToUndo(1), bench, "undo")
        self.unchanged(NothingToUndo(7), bench, "redo", many=7)
        for many in range(6):
            self.same(seen(bench), states[6 - many])
            bench.redo()
        self.same(seen(bench), states[0])
        self.unchanged(NothingToUndo(1), bench, "redo")
        self.same(bench.undo(many=6), (tuple(sorted(first[1:])), ()))
        self.same(bench.redo(many=6), ((), tuple(sorted(first[1:]))))
        for many in range(7):
            self.same([bench.undo(many=many) == bench.undo(many=0) or many > 0, bench.changes], [True, 6 - many])
            bench.redo(many=many)
            self.same(seen(bench), states[0])
        self.unchanged(NothingToUndo(7), bench, "undo", many=7)
        self.unchanged(NothingToUndo(SIXTY), bench, "undo", many=SIXTY)
        self.unchanged(NothingToUndo(SIXTY), bench, "redo", many=SIXTY)
        for call in ("undo", "redo"):
            for value in NO_INTEGERS + (-1, -SIXTY):
                self.unchanged(InvalidCount, bench, call, many=value)
                self.assertIs(self.raised(InvalidCount, getattr(bench, call), many=value).value, value)
            self.raised(TypeError, getattr(bench, call), 1)

    def test_no_news_in_all(self):
        bench = Bench(3)
        bench.put("one", ALONE), bench.grow("one", LINE), bench.prune("one", LINE), bench.put("two", PAIR), bench.drop("two")
        self.same([bench.undo(many=2), bench.undo(many=2), bench.redo(many=4), bench.changes], [((), ()), ((), ()), ((), ()), 5])
        self.same(bench.undo(many=3), (("curve one: t",), ("curve one: ., t",)))

    def test_another_change(self):
        bench = bench_of()
        bench.undo(many=3)
        self.unchanged(InvalidOperation, bench, "put", "both", ALONE)
        bench.redo(), bench.undo()
        self.same(bench.undo(many=0), ((), ()))
        bench.redo(many=3), bench.undo(many=3)
        self.unchanged(Refused(("let", "bare")), bench, "demand", ("let", "bare"))
        # A change that leaves all equal is one, too.
        bench.rename({name: name for name in bench.names})
        self.unchanged(NothingToUndo(1), bench, "redo")
        self.same([bench.changes, bench.undo(), bench.redo()], [4, ((), ()), ((), ())])

    def test_pledges_come_back(self):
        bench = Bench(3)
        bench.put("one", ALONE), bench.demand(("branches", "one", 1)), bench.waive(("branches", "one", 1)), bench.grow("one", LINE)
        self.same([bench.undo(many=2), bench.pledges], [(("curve one: ., t",), ("curve one: t",)), (("branches", "one", 1),)])
        self.unchanged(Refused(("branches", "one", 1)), bench, "grow", "one", LINE)
        self.same([bench.redo(many=2), bench.pledges, bench.lines[1]], [(("curve one: t",), ("curve one: ., t",)), (), "curve one: ., t"])

    def test_trials(self):
        bench = bench_of()
        bench.undo(many=2)
        before = seen(bench)
        with bench.trial() as same:
            self.assertIs(same, bench)
            bench.drop("both"), bench.put("new", ALONE), bench.undo(), bench.demand(("let", "let"))
            self.same(bench.changes, 6)
            inner = seen(bench)
            with bench.trial():
                bench.undo(many=6)
                with bench.trial() as third:
                    third.put("x", ALONE)
                self.same([bench.changes, bench.lines], [0, ("prime 3",)])
            self.same(seen(bench), inner)
        self.same(seen(bench), before)
        with self.assertRaises(ZeroDivisionError):
            with bench.trial():
                bench.drop("pair")
                bench.undo(many=3)
                bench.put("x", ALONE)
                raise ZeroDivisionError
        self.same(seen(bench), before)
        with self.assertRaises(UnknownName):
            with bench.trial():
                bench.redo()
                bench.drop("nothing")
        self.same(seen(bench), before)
        # A trial keeps what the bench is when the block is entered.
        trial = bench.trial()
        bench.drop("pair")
        after = seen(bench)
        with trial:
            bench.undo(many=2), bench.drop("both")
        self.same(seen(bench), after)
        bench.undo(), bench.redo()
        self.same(seen(bench), after)

    def test_during(self):
        bench = bench_of()
        before = seen(bench)
        self.same(bench.during(lambda same: [same is bench, same.drop("pair"), same.undo(many=4), same.changes]),
                  [True, (("curve pair: 0 t 1, 0 t 2",), ()), (("weights let: . 2, 0 1",), ("curve pair: 0 t 1, 0 t 2",)), 3])
        self.same(seen(bench), before)
        self.raised(UnknownName("x"), bench.during, lambda same: (same.drop("pair"), same.drop("x")))
        self.same(seen(bench), before)
        self.same(bench.during(lambda same: same.during(lambda inner: inner.undo(many=6)) and same.changes), 6)
        self.same(seen(bench), before)

    def test_twins(self):
        bench = bench_of()
        bench.undo(many=1)
        twin = bench.twin()
        self.same([seen(twin) == seen(bench), twin == bench, twin is bench], [True, True, False])
        before = seen(bench)
        twin.redo(), twin.drop("pair"), twin.put("new", ALONE), twin.undo(many=3), twin.drop("bare")
        self.same(seen(bench), before)
        other = seen(twin)
        bench.redo(), bench.undo(many=6), bench.put("x", ALONE)
        self.same(seen(twin), other)
        self.assertIs(twin == bench, False)
        with twin.trial():
            twin.twin().undo(many=2)
            self.same(seen(twin), other)
        third = twin.twin()
        third.undo()
        self.same([third.changes, twin.changes], [twin.changes - 1, twin.changes])

    def test_shares_nothing(self):
        bench = bench_of()
        self.assertIsInstance(bench.lines, tuple)
        self.assertIsInstance(bench.pledges, tuple)
        news = bench.drop("pair")
        self.same([type(news), type(news[0]), type(news[1])], [tuple, tuple, tuple])
        rows = [row for row in bench]
        rows.append("x")
        self.same(list(bench), list(bench.lines))

    def test_against_a_list_of_states(self):
        for prime in (2, 3, 5):
            done = self.walk(prime, numbers_made(prime, 30000, 100003))
            self.same(sorted(done), ["blend", "demand", "drop", "grow", "load", "prune", "put", "redo", "rename", "undo", "unload", "waive"])
            self.assertGreater(min(done.values()), 3)

    def walk(self, prime, made):
        """Many changes, chosen by numbers, on a bench and on its model; how many of each were made."""
        bench, model, done = Bench(prime), Model(prime), {}
        for at in range(0, len(made), 6):
            choice, numbers = made[at] % 12, made[at + 1:at + 6]
            if choice > 9:
                method, passed, named = ("undo", "redo")[choice - 10], (), {"many": numbers[0] % 4}
                wanted = model.move(numbers[0] % 4 * (1 if method == "redo" else -1))
            else:
                method, passed, after = step_to_try(prime, model.states[model.at], choice, numbers)
                named, wanted = {}, None if after is None else model.change(*after)
            if wanted is None:
                with self.assertRaises((InvalidOperation, UnknownName, TooMany)):
                    getattr(bench, method)(*passed)
            elif isinstance(wanted, Exception):
                self.raised(wanted, getattr(bench, method), *passed, **named)
            else:
                self.same(getattr(bench, method)(*passed, **named), wanted)
                done[method] = done.get(method, 0) + 1
            self.same([bench.lines, bench.pledges, bench.changes], [model.lines(), model.states[model.at][2], model.at])
            if at % 60 == 0:
                self.same(redos(bench), len(model.states) - 1 - model.at)
                with bench.trial():
                    bench.undo(many=model.at), bench.redo(many=len(model.states) - 1)
                self.same(bench.lines, model.lines())
        return done


def step_to_try(prime, state, choice, numbers):
    """A method, what is passed to it, and the state behind it, None if the call has to be refused."""
    curves, weights, pledges = state
    one, two, three = ["abcde"[number % 5] for number in numbers[:3]]
    words = ((), (-1,), (1,), (0, -1, 1), (0, 1), (-1, -1, 1), (1, -1, 1), (0, 0, -1, 1))
    tables = ({(): 1}, {(): 1, (0,): 2}, {(): 2, (0,): 1, (0, -1): 1}, {(): -3, (1,): 2}, {(): 0}, {(): 1, (0,): 1, (1,): 1})
    branch, loaded = Branch(prime, words[numbers[3] % 8]), Weights(prime, tables[numbers[3] % 6])
    known, curve = sorted([*curves, *weights]), curves.get(one)
    after = None
    if choice == 0:
        if one not in known and len(curves) < 6:
            after = (curves | {one: Curve((branch,))}, weights, pledges)
        return "put", (one, Curve((branch,))), after
    if choice == 1:
        if one not in known and len(weights) < 6:
            after = (curves, weights | {one: loaded}, pledges)
        return "load", (one, loaded), after
    if choice == 2:
        if curve is not None and branch not in curve.branches and len(curve) < 6:
            after = (curves | {one: Curve(curve.branches + (branch,))}, weights, pledges)
        return "grow", (one, branch), after
    if choice == 3:
        if curve is not None and branch in curve.branches and len(curve) > 1:
            after = (curves | {one: Curve(tuple(kept for kept in curve.branches if kept != branch))}, weights, pledges)
        return "prune", (one, branch), after
    if choice == 4:
        if one not in known and two in weights and three in weights:
            after = (curves, weights | {one: weights[two].plus(weights[three])}, pledges)
        return "blend", (one, two, three), after
    if choice == 5:
        if one in weights:
            after = (curves, weights | {one: unloaded(weights[one])}, pledges)
        return "unload", (one,), after
    if choice == 6:
        if one in known:
            after = [{name: table[name] for name in table if name != one} for table in (curves, weights)] + [pledges]
        return "drop", (one,), after
    if choice == 7:
        names = {name: "abcde"[("abcde".index(name) + numbers[4]) % 5] for name in known}
        return "rename", (names,), [{names[name]: table[name] for name in table} for table in (curves, weights)] + [pledges]
    if choice == 8:
        pledge = (("branches", one, 1 + numbers[4] % 2), ("lacked", one, numbers[4] % 4), ("touch", one, two, numbers[4] % 5), ("alike", one, two),
                  ("let", one), ("conditions", one, numbers[4] % 6))[numbers[3] % 6]
        if pledge not in pledges and len(pledges) < 10:
            after = (curves, weights, pledges + (pledge,))
        return "demand", (pledge,), after
    pledge = pledges[numbers[4] % len(pledges)] if pledges else ("let", one)
    if pledges:
        after = (curves, weights, tuple(kept for kept in pledges if kept != pledge))
    return "waive", (pledge,), after
