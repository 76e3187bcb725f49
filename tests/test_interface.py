"""[0.3], and the names, arguments and constants that the section "The interface" lists."""

import importlib
import inspect
import unittest

FUNCTIONS = {
    "base.numbers": """is_integer(value) is_prime(value) is_residue(prime,value) is_letter(prime,value) is_name(value)
        residue_inverse(prime,number) common_divisor(numbers) residue_of(prime,number)""",
    "base.rows": "Row(prime,entries)",
    "base.tables": """rank(prime,table) echelon(prime,table) kernel(prime,table) solved(prime,table,goal)
        is_solved(prime,table,goal,value) bar_of(prime,table,goal) is_bar(prime,table,goal,value)""",
    "word.words": """is_point(prime,value) is_word(prime,value) point_text(prime,point) read_point(prime,text)
        word_through(prime,point) Branch(prime,word) shared_height(one,other) each_word(prime,length)
        count_words(prime,length) word_at(prime,length,number) number_of(branch)""",
    "word.ways": """way_of(branch) way_degree(branch) letters_of(x,y,many) led_way(branch,row) stretched(branch,a,b)
        bent(branch,index,residue) exchanged(branch) Plane(prime,table) value_on(plane,branch) order_on(plane,branch)""",
    "tower.points": """points_near(prime,point) is_near(prime,one,other) is_corner(prime,point) orders_at(branch,height)
        count_at(branch,height) counts_of(branch,height) count_at_point(branch,point) reduced_counts(branch)
        count_sums(branch,many) corners_of(branch) tower_height(branch) points_below(prime,points)""",
    "tower.touches": """touch(one,other) touch_points(one,other) contact(one,other) touches(branches) smooth_branch(row)
        smooth_touch(branch,row) smooth_touches(branch)""",
    "number.orders": """generators_of(branch) are_generators(value) shares(generators) commons(generators)
        is_order(generators,number) order_paper(generators,number) is_order_paper(generators,number,value)
        last_gap(generators) lacked_by_orders(generators) gaps(generators) orders_below(generators,number)
        least_orders(generators) counts_told(generators) word_with(prime,generators)
        is_word_with(prime,generators,value)""",
    "ring.rings": """ring_table(branches,sizes) lacked_by_rank(branches) conductor_of(branches) is_in_ring(branches,value)
        orders_by_rank(branch,most) touch_by_rank(one,other) plane_with(branch,order)
        is_plane_with(branch,order,value) closed_orders(branch,many)""",
    "kind.kinds": """kind_of(branch) is_kind(value) are_alike(one,other) count_of_kind(prime,kind,length)
        each_of_kind(prime,kind,length) exponents_of(branch) pairs_of(branch) are_exponents(value)
        generators_by_exponents(exponents) counts_by_exponents(exponents) exponents_by_way(branch)""",
    "curve.curves": "Curve(branches)",
    "curve.matchings": """matching(one,other) is_matching(one,other,value) all_matchings(one,other) bar_between(one,other)
        is_bar(one,other,value) type_name(curve)""",
    "weight.weights": """Weights(prime,table) single(prime,point) parts_of(weights) is_parts(weights,value)
        with_worths(prime,table)""",
    "weight.unloading": "unloaded(weights) unload_steps(weights) is_unloading(weights,value) meet(one,other)",
    "weight.planes": """order_at(plane,point) is_through(weights,value) conditions(weights,degree) through(weights,degree)
        is_basis_through(weights,degree,value) least_plane(weights,degree)""",
    "tree.trees": "Tree(squares,joined) tree_of(prime,points) determinant(tree) is_negative(tree) crossing_table(tree)",
    "tree.taking": """takable(tree) take_down(tree) is_taking_down(tree,value) left_by(tree,nodes) points_with(prime,tree)
        are_points_with(prime,tree,value)""",
    "tree.resolving": "least_points(curve) crossings(curve) numbers_on(curve) numbers_of_k(prime,points)",
    "plait.polynomials": """is_polynomial(value) product_of(factors) at_one(polynomial) factors_by_tree(curve) by_tree(curve)
        factors_by_orders(generators) by_orders(generators) joining_number(curve)""",
    "plait.plaits": """is_plait(value) closed_strings(plait) links(plait) table_of_plait(plait) closing_polynomial(plait)
        cabled(plait,many,twists) plait_of(generators) by_plait(generators)""",
    "roll.rolls": """generators_with(lacked) count_kinds(lacked) rows_with(lacked) is_count_row(value) row_of(generators)
        generators_of_row(row) first_branch(prime,generators) tally(prime,length)""",
    "use.bench": "is_pledge(value) Bench(prime)",
}
CONSTANTS = {
    "base.numbers": {"PRIMES": (2, 3, 5, 7, 11, 13, 17, 19, 23, 29, 31), "MAX_NAME": 8},
    "base.rows": {"MAX_ENTRIES": 1000, "MAX_SIZE": 400}, "base.tables": {"MAX_LINES": 400},
    "word.words": {"TURN": -1, "MAX_LETTERS": 60, "MAX_LISTED": 3000},
    "word.ways": {"MAX_WAY": 400, "MAX_LETTERS": 600, "MAX_VALUE": 900}, "tower.points": {"MAX_HEIGHT": 200},
    "number.orders": {"MAX_GAPS": 10000, "MAX_LEAST": 2000}, "ring.rings": {"MAX_LACKED": 60, "MAX_SIZE": 130},
    "kind.kinds": {"MAX_LISTED": 3000}, "curve.curves": {"MAX_BRANCHES": 6}, "weight.weights": {"MAX_POINTS": 60},
    "weight.unloading": {"MAX_UNLOADED": 200, "MAX_HIGHEST": 10},
    "weight.planes": {"MAX_THROUGH": 20, "MAX_VALUE": 60, "MAX_ASKED": 200}, "tree.trees": {"MAX_NODES": 60},
    "plait.polynomials": {"MAX_DEGREE": 400, "MAX_FACTOR": 10000, "MAX_FACTORS": 60},
    "plait.plaits": {"MAX_STRINGS": 6, "MAX_CROSSINGS": 200}, "roll.rolls": {"MAX_ROLLED": 12, "MAX_TALLIED": 3000},
    "use.bench": {"MAX_CURVES": 6, "MAX_WEIGHTS": 6, "MAX_PLEDGES": 10},
}
PROPERTIES = {
    "base.rows.Row": "prime entries degree order", "word.words.Branch": "prime word is_smooth",
    "word.ways.Plane": "prime table degree order", "curve.curves.Curve": "prime branches lacked milnor",
    "weight.weights.Weights": "prime table points rests worths is_let lacked conditions",
    "tree.trees.Tree": "squares joined table", "use.bench.Bench": "prime names lines pledges changes",
}
METHODS = {
    "base.rows.Row": """read(prime,text) entry(power) plus(other) minus(other) times(other) scaled(residue) raised(many)
        shifted(many) cut(size) composed(other,size) quotient(other,size) turned_back(size) __eq__ __str__""",
    "word.words.Branch": """read(prime,text) letter_at(height) point_at(height) goes_through(point) __len__ __contains__
        __iter__ __eq__ __str__""",
    "word.ways.Plane": "plus(other) minus(other) multiplied(other) transformed(letter,weight) __eq__ __len__",
    "curve.curves.Curve": """count_on(point) points_to(height) touch_table() parting_height() with_branch(branch)
        without_branch(branch) __len__ __iter__ __contains__ __eq__ __str__""",
    "weight.weights.Weights": "at(point) plus(other) multiplied(many) touch_with(other) __eq__ __len__ __iter__ __contains__",
    "tree.trees.Tree": "beside(node) __len__ __eq__ __str__",
    "use.bench.Bench": """put(name,curve) load(name,weights) grow(name,branch) prune(name,branch) blend(name,one,other)
        unload(name) drop(name) rename(names) demand(pledge) waive(pledge) undo(*,many=1) redo(*,many=1) trial()
        during(call) twin() curve_named(name) weights_named(name) __contains__ __len__ __iter__ __eq__ __str__""",
}


def told(call):
    """The parameters of a function, but for that of its object."""
    text = str(inspect.signature(call)).replace(" ", "")
    return text.replace("(self,", "(").replace("(self)", "()")


class InterfaceTest(unittest.TestCase):

    def test_functions_and_classes(self):
        for place, names in FUNCTIONS.items():
            module = importlib.import_module("touchtowers." + place)
            for text in names.split():
                name = text.partition("(")[0]
                found = vars(module)[name]
                self.assertEqual(name + told(found), text)
                # Defined in this very file.
                self.assertEqual(found.__module__, module.__name__)

    def test_constants(self):
        for place, wanted in CONSTANTS.items():
            module = importlib.import_module("touchtowers." + place)
            self.assertEqual({name: vars(module)[name] for name in wanted}, wanted)

    def test_methods_and_properties(self):
        for table, is_property in ((PROPERTIES, True), (METHODS, False)):
            for place, names in table.items():
                file, _, kind = place.rpartition(".")
                members = vars(vars(importlib.import_module("touchtowers." + file))[kind])
                for text in names.split():
                    name = text.partition("(")[0]
                    self.assertIs(isinstance(members[name], property), is_property, text)
                    if not is_property and not name.startswith("__"):
                        call = getattr(members[name], "__wrapped__", members[name])
                        if isinstance(call, classmethod):
                            call = call.__func__
                        self.assertEqual(name + told(call).replace("(cls,", "("), text)


if __name__ == "__main__":
    unittest.main()
