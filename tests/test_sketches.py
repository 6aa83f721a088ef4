import copy
import random
import unittest

from rightskept.derivations import derivation, is_derivation
from rightskept.errors import RightsError
from rightskept.judging import faults, is_let_by
from rightskept.programs import Function, Program, is_sketch, variables, with_table
from rightskept.sketches import barred, fulfils, is_under, least, rules, shape_faults
from sketching import (all_claims, all_tables, blocks, depths, drawn_sketch, drawn_table, full_table, intersection,
                       is_within, model_least, model_rules, model_shape, places, small_sketch, true_in)
from tables import RIGHTS

NUMBER = ("number", 7)
NULL = ("null",)

# The variables that the statements of the tests have, by their depths.
DEPTHS = {"n": 0, "m": 0, "p": 1, "q": 2, "s": 3, "deep": 5}


def value(name, stars=0):
    return ("value", (name, stars))


def address(name, stars=0):
    return ("address", (name, stars))


def let(name, depth):
    return ("let", name, depth, NUMBER if depth == 0 else NULL)


LETS = [let(name, depth) for name, depth in DEPTHS.items()]

# Of each kind of statement and source, with each fault of shape that it can have.
UNKNOWN = [("let", "x", 0, value("zz")), ("let", "x", 1, address("zz")), ("let", "x", 0, value("zz", 5)),
           ("let", "x", 0, value("x")), ("let", "x", 1, address("x")), ("put", ("zz", 0), NUMBER),
           ("put", ("zz", 3), NULL), ("put", ("n", 0), value("zz")), ("put", ("p", 0), address("zz", 1)),
           ("call", "one", [value("zz")]), ("call", "one", [address("zz")])]
STARS = [("let", "x", 0, value("n", 1)), ("let", "x", 1, address("n", 1)), ("let", "x", 0, value("q", 3)),
         ("let", "x", 1, address("p", 2)), ("put", ("n", 1), NUMBER), ("put", ("q", 3), NUMBER),
         ("put", ("n", 0), value("p", 2)), ("put", ("p", 0), address("n", 1)), ("call", "one", [value("p", 2)]),
         ("call", "one", [address("n", 5)])]
OTHER = [("let", "x", 0, NULL), ("let", "x", 1, NUMBER), ("let", "x", 5, NUMBER), ("let", "x", 1, value("n")),
         ("let", "x", 0, value("p")), ("let", "x", 2, value("q", 1)), ("let", "x", 0, address("n")),
         ("let", "x", 2, address("n")), ("let", "x", 1, address("p")), ("let", "x", 3, address("q", 1)),
         ("put", ("n", 0), NULL), ("put", ("p", 0), NUMBER), ("put", ("p", 1), NULL), ("put", ("q", 1), NUMBER),
         ("put", ("n", 0), value("p")), ("put", ("p", 1), value("p")), ("put", ("p", 0), value("p", 1)),
         ("put", ("p", 0), address("p")), ("put", ("p", 1), address("n")), ("put", ("n", 0), address("n")),
         ("call", "one", [NUMBER]), ("call", "none", [NULL]), ("call", "one", [value("n")]),
         ("call", "none", [address("n")]), ("call", "one", [address("p")])]
RIGHT = [("let", "x", 0, NUMBER), ("let", "x", 1, NULL), ("let", "x", 5, NULL), ("let", "x", 0, value("n")),
         ("let", "x", 0, value("s", 3)), ("let", "x", 1, address("n")), ("let", "x", 4, address("s")),
         ("let", "x", 1, address("s", 3)), ("put", ("n", 0), NUMBER), ("put", ("p", 0), NULL),
         ("put", ("p", 1), NUMBER), ("put", ("q", 1), NULL), ("put", ("q", 1), address("n")),
         ("put", ("deep", 5), value("deep", 5)), ("put", ("deep", 0), address("deep", 1)),
         ("call", "one", [NULL]), ("call", "none", [NUMBER]), ("call", "one", [address("n")]),
         ("call", "none", [value("p", 1)])]

FUNCTIONS = [Function("none", [("u", 0)], []), Function("one", [("v", 1)], [])]


def sketch_with(statement):
    """A sketch that has the statement behind lets of the variables of DEPTHS."""
    return Program(FUNCTIONS, LETS + [statement])


class ShapeTest(unittest.TestCase):
    def told(self, functions, statements):
        sketch = Program(functions, statements)
        found = shape_faults(sketch)
        self.assertIs(type(found), list)
        self.assertEqual(found, model_shape(sketch))
        return found

    def check(self, statement, reason, functions=()):
        """The reason told of a statement among a program's, in a body behind lets, and in one with parameters."""
        functions = FUNCTIONS + list(functions)
        at = len(LETS)
        wanted = [(at, reason)] if reason else []
        self.assertEqual(self.told(functions, LETS + [statement]), [("", at, reason) for at, reason in wanted])
        self.assertEqual(self.told(functions + [Function("f", [], LETS + [statement])], []),
                         [("f", at, reason) for at, reason in wanted])
        params = [(name, DEPTHS[name]) for name in ("n", "p", "q", "s")]
        self.assertEqual(self.told(functions + [Function("f", params, [let("deep", 5), statement])], []),
                         [("f", 1, reason) for _, reason in wanted])

    def test_unknown_name(self):
        for statement in UNKNOWN:
            self.check(statement, "unknown name")

    def test_too_many_stars(self):
        for statement in STARS:
            self.check(statement, "too many stars")

    def test_other_depth(self):
        for statement in OTHER:
            self.check(statement, "other depth")

    def test_right_shape(self):
        for statement in RIGHT:
            self.check(statement, "")

    def test_two_in_one(self):
        two = [Function("two", [("a", 0), ("b", 1)], [])]
        for statement, reason in [
                (("put", ("zz", 0), value("n", 1)), "unknown name"), (("put", ("n", 1), value("zz")), "too many stars"),
                (("put", ("zz", 0), NULL), "unknown name"), (("put", ("n", 1), NULL), "too many stars"),
                (("put", ("n", 0), value("zz", 5)), "unknown name"), (("let", "x", 4, value("n", 1)), "too many stars"),
                (("let", "x", 4, address("zz")), "unknown name"),
                (("call", "two", [value("n", 1), value("zz")]), "too many stars"),
                (("call", "two", [value("zz"), value("n", 1)]), "unknown name"),
                (("call", "two", [NULL, value("zz")]), "other depth"),
                (("call", "two", [NUMBER, address("zz")]), "unknown name"),
                (("call", "two", [NUMBER, NUMBER]), "other depth"),
                (("call", "two", [value("n"), value("n", 1)]), "too many stars")]:
            self.check(statement, reason, two)

    def test_an_unknown_name_comes_ahead_of_a_number_of_stars(self):
        self.assertEqual(self.told([], [("put", ("zz", 5), NUMBER)]), [("", 0, "unknown name")])

    def test_nothing(self):
        self.assertEqual(self.told([], []), [])
        self.assertEqual(self.told([Function("f", [], [])], [("call", "f", [])]), [])
        self.assertEqual(self.told([], [("put", ("x", 0), NUMBER)]), [("", 0, "unknown name")])

    def test_a_statement_with_a_fault_makes_its_variable_known(self):
        statements = [("let", "x", 1, NUMBER), ("put", ("x", 1), NUMBER), ("let", "y", 0, value("zz")),
                      ("put", ("y", 0), value("x", 1)), ("put", ("y", 1), NUMBER)]
        wanted = [(0, "other depth"), (2, "unknown name"), (4, "too many stars")]
        self.assertEqual(self.told([], statements), [("", at, reason) for at, reason in wanted])
        self.assertEqual(self.told([Function("f", [], statements)], []), [("f", at, reason) for at, reason in wanted])

    def test_order_and_blocks(self):
        bad = ("put", ("x", 0), NUMBER)
        functions = [Function("h", [("a", 0)], [bad, ("put", ("a", 0), NUMBER), bad]), Function("b", [], []),
                     Function("g", [], [("let", "x", 0, NUMBER), bad]), Function("c", [("d", 1)], [bad])]
        self.assertEqual(self.told(functions, [("call", "h", [NULL]), bad, ("call", "b", []), ("put", ("a", 0), NULL)]),
                         [("h", 0, "unknown name"), ("h", 2, "unknown name"), ("c", 0, "unknown name"),
                          ("", 0, "other depth"), ("", 1, "unknown name"), ("", 3, "unknown name")])

    def test_faults_of_rights_are_none(self):
        """Whatever rights these have, some table gives the statement a fault that is none of shape."""
        for statement in [("put", ("n", 0), NUMBER), ("put", ("p", 1), value("n")), ("let", "x", 1, address("n")),
                          ("let", "x", 0, value("n")), ("call", "one", [address("n")])]:
            sketch = sketch_with(statement)
            table = {name: ("-",) * (depth + 1) for name, depth in depths(sketch).items()}
            table.update({name: ("rw",) * (depth + 1) for name, depth in [("x", 1), ("v", 1)]})
            if statement[0] == "let":
                table["x"] = ("rw",) * (statement[2] + 1)
            self.assertEqual(len(faults(with_table(sketch, table), [])), 1)
            self.assertEqual(shape_faults(sketch), [])

    def test_drawn(self):
        told = {}
        for seed in range(1500):
            rng = random.Random(seed)
            sketch = drawn_sketch(rng, seed % 4 == 0)
            found = self.told(sketch.functions, sketch.statements)
            for table in (full_table(sketch), drawn_table(rng, sketch)):
                judged = faults(with_table(sketch, table), [])
                self.assertLessEqual({fault[:2] for fault in found}, {fault[:2] for fault in judged})
            for _, _, reason in found:
                told[reason] = told.get(reason, 0) + 1
        for reason in ("unknown name", "too many stars", "other depth"):
            self.assertGreater(told[reason], 100)

    def test_the_list_belongs_to_the_caller(self):
        sketch = Program([], [let("n", 0), ("put", ("zz", 0), NUMBER)])
        shape_faults(sketch).clear()
        self.assertEqual(shape_faults(sketch), [("", 1, "unknown name")])


class NoShapeTest(unittest.TestCase):
    def calls(self, sketch):
        """Calls of all functions that refuse sketches; those of functions of a step, too, that is none."""
        table = full_table(sketch)
        return [lambda: rules(sketch, "", 0), lambda: rules(sketch, "", 900), lambda: least(sketch),
                lambda: fulfils(sketch, table), lambda: barred(sketch, []), lambda: barred(sketch, [("n", 0, "-")]),
                lambda: derivation(sketch, ("n", 0, "r")), lambda: derivation(sketch, ("zz", 0, "r")),
                lambda: is_derivation(sketch, [], ("n", 0, "r")),
                lambda: is_derivation(sketch, [(("", 0), [], ("n", 0, "w"))], ("n", 0, "w"))]

    def check_refused(self, sketch):
        for call in self.calls(sketch):
            with self.assertRaises(RightsError) as caught:
                call()
            self.assertEqual(caught.exception.reason, "no shape")

    def test_each_fault(self):
        for statement in UNKNOWN + STARS + OTHER:
            self.check_refused(sketch_with(statement))

    def test_in_a_body(self):
        for statement in UNKNOWN + STARS + OTHER:
            functions = FUNCTIONS + [Function("f", [], LETS + [statement])]
            self.check_refused(Program(functions, []))
            self.check_refused(Program(functions, [let("k", 0)]))

    def test_without_variables(self):
        self.check_refused(Program([], [("put", ("x", 0), NUMBER)]))

    def test_no_other_sketch_is_refused(self):
        for statement in RIGHT:
            for call in self.calls(sketch_with(statement)):
                call()
        for call in self.calls(Program([], [])) + self.calls(Program([Function("f", [], [])], [("call", "f", [])])):
            call()

    def test_drawn(self):
        for seed in range(200):
            sketch = drawn_sketch(random.Random(seed), seed % 4 == 0)
            if model_shape(sketch):
                self.check_refused(sketch)
            else:
                for call in self.calls(sketch):
                    call()


class RulesCase(unittest.TestCase):
    def told(self, statement, functions=FUNCTIONS):
        """The rules of a statement behind lets, and the same ones of it in a body."""
        sketch = Program(functions, LETS + [statement])
        found = rules(sketch, "", len(LETS))
        self.check_like_the_model(sketch)
        twin = Program(functions + [Function("f", [], LETS + [statement])], [])
        self.assertEqual(rules(twin, "f", len(LETS)), found)
        return found

    def check_like_the_model(self, sketch):
        for place in places(sketch):
            found = rules(sketch, *place)
            self.assertIs(type(found), list)
            self.assertEqual(found, model_rules(sketch, *place), place)
            for rule in found:
                self.assertIs(type(rule), tuple)
                self.assertIs(type(rule[0]), list)


class RulesTest(RulesCase):
    def test_no_rules(self):
        for statement in [("let", "x", 0, NUMBER), ("let", "x", 1, NULL), ("let", "x", 5, NULL),
                          ("call", "none", [NUMBER]), ("call", "one", [NULL])]:
            self.assertEqual(self.told(statement), [])
        self.assertEqual(rules(Program([Function("f", [], [])], [("call", "f", [])]), "", 0), [])

    def test_places(self):
        reached = [([], ("s", 0, "r")), ([], ("s", 1, "r"))]
        self.assertEqual(self.told(("put", ("n", 0), NUMBER)), [([], ("n", 0, "w"))])
        self.assertEqual(self.told(("put", ("p", 0), NULL)), [([], ("p", 0, "w"))])
        self.assertEqual(self.told(("put", ("p", 1), NUMBER)), [([], ("p", 0, "r")), ([], ("p", 1, "w"))])
        self.assertEqual(self.told(("put", ("s", 2), NULL)), reached + [([], ("s", 2, "w"))])
        self.assertEqual(self.told(("put", ("deep", 5), NUMBER)),
                         [([], ("deep", level, "r")) for level in range(5)] + [([], ("deep", 5, "w"))])
        self.assertEqual(self.told(("let", "x", 0, value("n"))), [([], ("n", 0, "r"))])
        self.assertEqual(self.told(("let", "x", 0, value("s", 3))),
                         reached + [([], ("s", 2, "r")), ([], ("s", 3, "r"))])
        self.assertEqual(self.told(("put", ("n", 0), value("m"))), [([], ("m", 0, "r")), ([], ("n", 0, "w"))])

    def test_one_right(self):
        self.assertEqual(self.told(("let", "x", 1, address("n"))), [
            ([("x", 1, "r")], ("n", 0, "r")), ([("x", 1, "w")], ("n", 0, "w"))])
        self.assertEqual(self.told(("let", "x", 1, value("p"))), [
            ([], ("p", 0, "r")), ([("x", 1, "r")], ("p", 1, "r")), ([("x", 1, "w")], ("p", 1, "w"))])
        self.assertEqual(self.told(("let", "x", 1, address("p", 1))), [
            ([], ("p", 0, "r")), ([("x", 1, "r")], ("p", 1, "r")), ([("x", 1, "w")], ("p", 1, "w"))])
        self.assertEqual(self.told(("let", "x", 1, value("q", 1))), [
            ([], ("q", 0, "r")), ([], ("q", 1, "r")),
            ([("x", 1, "r")], ("q", 2, "r")), ([("x", 1, "w")], ("q", 2, "w"))])
        self.assertEqual(self.told(("put", ("p", 0), address("n"))), [
            ([], ("p", 0, "w")), ([("p", 1, "r")], ("n", 0, "r")), ([("p", 1, "w")], ("n", 0, "w"))])
        self.assertEqual(self.told(("put", ("q", 1), address("n"))), [
            ([], ("q", 0, "r")), ([], ("q", 1, "w")),
            ([("q", 2, "r")], ("n", 0, "r")), ([("q", 2, "w")], ("n", 0, "w"))])

    def test_two_rights(self):
        """Behind an r as before, behind a w with the sides turned about."""
        self.assertEqual(self.told(("let", "x", 2, address("p"))), [
            ([("x", 1, "r")], ("p", 0, "r")),
            ([("x", 1, "r"), ("x", 2, "r")], ("p", 1, "r")),
            ([("x", 1, "r"), ("x", 2, "w")], ("p", 1, "w")),
            ([("x", 1, "w")], ("p", 0, "w")),
            ([("x", 1, "w"), ("p", 1, "r")], ("x", 2, "r")),
            ([("x", 1, "w"), ("p", 1, "w")], ("x", 2, "w"))])

    def test_three_rights(self):
        found = self.told(("let", "x", 3, value("s")))
        self.assertEqual(len(found), 1 + 2 + 4 + 8)
        for rule in [([], ("s", 0, "r")),
                     ([("x", 1, "r"), ("x", 2, "r"), ("x", 3, "w")], ("s", 3, "w")),
                     ([("x", 1, "r"), ("x", 2, "w"), ("s", 3, "w")], ("x", 3, "w")),
                     ([("x", 1, "w"), ("s", 2, "r"), ("s", 3, "r")], ("x", 3, "r")),
                     ([("x", 1, "w"), ("s", 2, "w"), ("x", 3, "r")], ("s", 3, "r"))]:
            self.assertIn(rule, found)

    def test_depth_five(self):
        found = self.told(("let", "x", 5, value("deep")))
        self.assertEqual(len(found), 1 + 2 + 4 + 8 + 16 + 32)
        self.assertEqual(len(self.told(("put", ("deep", 0), value("deep")))), 2 + 2 + 4 + 8 + 16 + 32)
        self.assertIn(([("x", 1, "w"), ("deep", 2, "w"), ("x", 3, "w"), ("deep", 4, "w"), ("x", 5, "r")],
                       ("deep", 5, "r")), found)

    def test_one_variable_on_both_sides(self):
        self.assertEqual(self.told(("put", ("n", 0), value("n"))), [([], ("n", 0, "r")), ([], ("n", 0, "w"))])
        self.assertEqual(self.told(("put", ("p", 0), value("p"))), [
            ([], ("p", 0, "r")), ([], ("p", 0, "w")),
            ([("p", 1, "r")], ("p", 1, "r")), ([("p", 1, "w")], ("p", 1, "w"))])
        self.assertEqual(self.told(("put", ("q", 0), address("q", 1))), [
            ([], ("q", 0, "r")), ([], ("q", 0, "w")),
            ([("q", 1, "r")], ("q", 1, "r")),
            ([("q", 1, "r"), ("q", 2, "r")], ("q", 2, "r")),
            ([("q", 1, "r"), ("q", 2, "w")], ("q", 2, "w")),
            ([("q", 1, "w")], ("q", 1, "w")),
            ([("q", 1, "w"), ("q", 2, "r")], ("q", 2, "r")),
            ([("q", 1, "w"), ("q", 2, "w")], ("q", 2, "w"))])

    def test_each_once(self):
        """Two sources, or a place and a source, that ask for the same."""
        self.assertEqual(self.told(("put", ("q", 2), value("q", 2))), [
            ([], ("q", 0, "r")), ([], ("q", 1, "r")), ([], ("q", 2, "r")), ([], ("q", 2, "w"))])
        functions = [Function("two", [("a", 0), ("b", 0), ("c", 1)], [])]
        self.assertEqual(self.told(("call", "two", [value("q", 2), value("q", 2), value("q", 1)]), functions), [
            ([], ("q", 0, "r")), ([], ("q", 1, "r")), ([], ("q", 2, "r")),
            ([("c", 1, "r")], ("q", 2, "r")), ([("c", 1, "w")], ("q", 2, "w"))])

    def test_calls(self):
        self.assertEqual(self.told(("call", "one", [address("n")])), [
            ([("v", 1, "r")], ("n", 0, "r")), ([("v", 1, "w")], ("n", 0, "w"))])
        self.assertEqual(self.told(("call", "none", [value("p", 1)])), [([], ("p", 0, "r")), ([], ("p", 1, "r"))])
        functions = [Function("four", [("a", 1), ("b", 0), ("c", 1), ("d", 3)], [])]
        self.assertEqual(self.told(("call", "four", [address("n"), NUMBER, value("p"), NULL]), functions), [
            ([], ("p", 0, "r")), ([("a", 1, "r")], ("n", 0, "r")), ([("a", 1, "w")], ("n", 0, "w")),
            ([("c", 1, "r")], ("p", 1, "r")), ([("c", 1, "w")], ("p", 1, "w"))])

    def test_statements_of_bodies_and_their_callers_are_apart(self):
        sketch = Program([Function("f", [("a", 1)], [("put", ("a", 1), NUMBER)]), Function("g", [("b", 0)], [])],
                         [let("n", 0), ("call", "f", [address("n")]), ("call", "g", [value("n")])])
        self.assertEqual(rules(sketch, "f", 0), [([], ("a", 0, "r")), ([], ("a", 1, "w"))])
        self.assertEqual(rules(sketch, "", 0), [])
        self.assertEqual(rules(sketch, "", 1), [([("a", 1, "r")], ("n", 0, "r")), ([("a", 1, "w")], ("n", 0, "w"))])
        self.assertEqual(rules(sketch, "", 2), [([], ("n", 0, "r"))])

    def test_no_such_statement(self):
        sketch = Program([Function("f", [], [])], [let("n", 0)])
        for place in [("", 1), ("f", 0), ("g", 0), ("n", 0), ("", 40)]:
            self.assertEqual(rules(sketch, *place), [])

    def test_all_of_the_lists(self):
        for statement in RIGHT:
            self.told(statement)

    def test_drawn(self):
        many = 0
        for seed in range(400):
            sketch = drawn_sketch(random.Random(seed), True, 3 + seed % 3)
            self.check_like_the_model(sketch)
            many += len(places(sketch))
        self.assertGreater(many, 2000)

    def test_a_statement_is_let_by_exactly_if_its_rules_are_fulfilled(self):
        asked = {True: 0, False: 0}
        for seed in range(400):
            rng = random.Random(seed)
            sketch = drawn_sketch(rng, True, 5)
            table = drawn_table(rng, sketch, ("rw", "rw", "rw", "r", "w", "-"))
            barred_places = {fault[:2] for fault in faults(with_table(sketch, table), [])}
            for place in places(sketch):
                holds = all(true_in(table, conclusion) or not all(true_in(table, claim) for claim in premises)
                            for premises, conclusion in rules(sketch, *place))
                self.assertIs(holds, place not in barred_places)
                asked[holds] += 1
        self.assertGreater(min(asked.values()), 300)

    def test_the_lists_belong_to_the_caller(self):
        sketch = Program([], [let("p", 1), ("let", "x", 2, address("p"))])
        before = copy.deepcopy(sketch.statements)
        found = rules(sketch, "", 1)
        wanted = copy.deepcopy(found)
        for premises, _ in found:
            premises.clear()
        found.clear()
        self.assertEqual(rules(sketch, "", 1), wanted)
        self.assertEqual(sketch.statements, before)


class TablesTest(unittest.TestCase):
    """fulfils and least against all tables of small sketches, one by one."""

    def test_all_tables(self):
        many = 0
        for seed in range(150):
            sketch = small_sketch(random.Random(seed), 5)
            letting = []
            for table in all_tables(sketch):
                lets = is_let_by(with_table(sketch, table), [])
                self.assertIs(fulfils(sketch, table), lets)
                if lets:
                    letting.append(table)
                many += 1
            told = least(sketch)
            self.assertIn(told, letting)
            self.assertTrue(all(is_within(told, table) for table in letting))
            self.assertEqual(told, intersection(letting))
        self.assertGreater(many, 10000)

    def test_drawn_tables(self):
        asked = {True: 0, False: 0}
        for seed in range(600):
            rng = random.Random(seed)
            sketch = drawn_sketch(rng)
            table = drawn_table(rng, sketch, ("rw", "rw", "rw", "rw", "r", "w", "-"))
            lets = is_let_by(with_table(sketch, table), [])
            self.assertIs(fulfils(sketch, table), lets)
            asked[lets] += 1
            if lets:
                self.assertTrue(is_within(least(sketch), table))
            self.assertIs(fulfils(sketch, full_table(sketch)), True)
        self.assertGreater(min(asked.values()), 50)

    def test_fulfils_around_the_least(self):
        """The least table with a letter less fulfils the rules never, with one more sometimes."""
        asked = {True: 0, False: 0}
        for seed in range(200):
            sketch = drawn_sketch(random.Random(seed))
            told = least(sketch)
            self.assertIs(fulfils(sketch, told), True)
            for name, level, letter in all_claims(sketch):
                right = told[name][level]
                other = right.replace(letter, "") or "-" if letter in right else "".join(sorted(
                    right.replace("-", "") + letter))
                table = dict(told)
                table[name] = told[name][:level] + (other,) + told[name][level + 1:]
                lets = is_let_by(with_table(sketch, table), [])
                self.assertIs(fulfils(sketch, table), lets)
                if letter in right:
                    self.assertIs(lets, False)
                else:
                    asked[lets] += 1
        self.assertGreater(min(asked.values()), 50)


class LeastTest(unittest.TestCase):
    def test_none(self):
        self.assertEqual(least(Program([], [])), {})
        self.assertEqual(least(Program([Function("f", [], [])], [("call", "f", [])])), {})

    def test_nothing_asked(self):
        sketch = Program([Function("f", [("a", 5), ("b", 0)], [let("c", 2)])], [let("x", 3), let("y", 0)])
        self.assertEqual(least(sketch), {"a": ("-",) * 6, "b": ("-",), "c": ("-",) * 3, "x": ("-",) * 4, "y": ("-",)})
        self.assertEqual(list(least(sketch)), variables(sketch))

    def test_worked(self):
        sketch = Program(
            [Function("keep", [("to", 1), ("v", 0)], [("put", ("to", 1), value("v"))])],
            [let("a", 0), ("call", "keep", [address("a"), NUMBER]), ("let", "b", 0, value("a"))])
        self.assertEqual(least(sketch), {"to": ("r", "w"), "v": ("r",), "a": ("rw",), "b": ("-",)})

    def test_through_a_cell(self):
        """What is put through one address is used through another one: the letter is asked of what is put."""
        statements = [let("n", 0), let("c", 1), ("let", "q", 2, address("c")), ("put", ("q", 1), address("n")),
                      ("put", ("c", 1), NUMBER)]
        self.assertEqual(least(Program([], statements)),
                         {"n": ("w",), "c": ("rw", "w"), "q": ("r", "w", "w")})
        self.assertEqual(least(Program([], statements[:4])),
                         {"n": ("-",), "c": ("w", "-"), "q": ("r", "w", "-")})
        self.assertEqual(least(Program([], statements[:3] + statements[4:])),
                         {"n": ("-",), "c": ("r", "w"), "q": ("-", "-", "-")})

    def test_depth_five(self):
        sketch = Program([], [let("x", 5), ("put", ("x", 5), value("x", 5)), ("let", "y", 5, value("x")),
                              ("let", "z", 5, address("x", 1))])
        self.assertEqual(least(sketch), {"x": ("r",) * 5 + ("rw",), "y": ("-",) * 6, "z": ("-",) * 6})

    def test_a_function_that_is_never_called(self):
        sketch = Program([Function("f", [("a", 1)], [("put", ("a", 1), NUMBER)])], [])
        self.assertEqual(least(sketch), {"a": ("r", "w")})

    def test_drawn(self):
        for seed in range(500):
            sketch = drawn_sketch(random.Random(seed), True, 2 + seed % 4)
            told = least(sketch)
            self.assertEqual({claim for claim in all_claims(sketch) if true_in(told, claim)}, model_least(sketch))
            self.assertEqual(list(told), variables(sketch))
            for name, depth in depths(sketch).items():
                self.assertEqual(len(told[name]), depth + 1)
                self.assertTrue(all(right in RIGHTS for right in told[name]))

    def test_the_largest(self):
        """As many statements, sources and rights as there may be."""
        names = ["v" + sign for sign in "abcd"]
        functions = [Function("f", [(name, 5) for name in names], [("put", (name, 0), value(other))
                                                                   for name in names for other in names][:12])]
        statements = [let("x", 5), ("put", ("x", 5), NUMBER), ("put", ("x", 5), value("x", 5))]
        statements += [("call", "f", [value("x")] * 4)] * 36 + [("put", ("x", 0), value("x"))]
        sketch = Program(functions, statements)
        self.assertEqual(least(sketch)["x"], ("rw",) + ("r",) * 4 + ("rw",))
        self.assertIs(fulfils(sketch, least(sketch)), True)

    def test_the_table_belongs_to_the_caller(self):
        sketch = Program([Function("f", [("a", 1)], [("put", ("a", 1), NUMBER)])], [let("n", 0)])
        before = copy.deepcopy((sketch.functions[0].__dict__, sketch.statements))
        table = least(sketch)
        table.clear()
        self.assertEqual(least(sketch), {"a": ("r", "w"), "n": ("-",)})
        self.assertEqual((sketch.functions[0].__dict__, sketch.statements), before)
        self.assertIs(is_sketch(sketch), True)


class CeilingsTest(unittest.TestCase):
    SKETCH = Program([Function("f", [("a", 1)], [("put", ("a", 1), NUMBER)])],
                     [let("n", 0), ("call", "f", [address("n")]), ("put", ("n", 0), value("n"))])

    def test_is_under(self):
        table = {"x": ("rw", "r"), "y": ("-",), "z": ("w", "rw", "-")}
        for ceilings, wanted in [
                ([], True), ([("x", 0, "rw")], True), ([("x", 0, "r")], False), ([("x", 0, "w")], False),
                ([("x", 0, "-")], False), ([("x", 1, "r")], True), ([("x", 1, "rw")], True), ([("x", 1, "w")], False),
                ([("y", 0, "-")], True), ([("y", 0, "w")], True), ([("z", 0, "w"), ("z", 2, "-")], True),
                ([("z", 0, "w"), ("z", 1, "r"), ("z", 2, "-")], False), ([("x", 0, "rw"), ("x", 0, "r")], False),
                ([("x", 1, "r"), ("x", 1, "-")], False), ([("x", 1, "-"), ("x", 1, "r")], False)]:
            self.assertIs(is_under(table, ceilings), wanted, ceilings)

    def test_where_there_is_no_right(self):
        self.assertIs(is_under({"x": ("rw",)}, [("x", 1, "-"), ("x", 5, "-"), ("x", -1, "-"), ("y", 0, "-")]), True)
        self.assertEqual(barred(self.SKETCH, [("n", 1, "-"), ("n", -1, "-"), ("zz", 0, "-"), ("a", 2, "-")]), [])

    def test_barred(self):
        self.assertEqual(least(self.SKETCH), {"a": ("r", "w"), "n": ("rw",)})
        for ceilings, wanted in [
                ([], []), ([("n", 0, "rw")], []), ([("n", 0, "r")], [("n", 0, "w")]), ([("n", 0, "w")], [("n", 0, "r")]),
                ([("n", 0, "-")], [("n", 0, "r"), ("n", 0, "w")]), ([("a", 0, "r"), ("a", 1, "w")], []),
                ([("a", 0, "w"), ("a", 1, "r")], [("a", 0, "r"), ("a", 1, "w")]),
                ([("n", 0, "-"), ("a", 1, "-"), ("a", 0, "-")],
                 [("a", 0, "r"), ("a", 1, "w"), ("n", 0, "r"), ("n", 0, "w")])]:
            self.assertEqual(barred(self.SKETCH, ceilings), wanted)

    def test_several_for_one_claim(self):
        for ceilings, wanted in [
                ([("n", 0, "r"), ("n", 0, "-")], [("n", 0, "r"), ("n", 0, "w")]),
                ([("n", 0, "-"), ("n", 0, "-")], [("n", 0, "r"), ("n", 0, "w")]),
                ([("n", 0, "r"), ("n", 0, "w")], [("n", 0, "r"), ("n", 0, "w")]),
                ([("n", 0, "rw"), ("n", 0, "r")], [("n", 0, "w")]), ([("n", 0, "r"), ("n", 0, "rw")], [("n", 0, "w")]),
                ([("n", 0, "rw"), ("n", 0, "rw")], [])]:
            self.assertEqual(barred(self.SKETCH, ceilings), wanted)

    def test_drawn(self):
        asked = {True: 0, False: 0}
        for seed in range(600):
            rng = random.Random(seed)
            sketch = drawn_sketch(rng)
            kinds = depths(sketch)
            if not kinds:
                continue
            ceilings = [(name, rng.randint(0, kinds[name]), rng.choice(("rw",) + RIGHTS))
                        for name in rng.choices(list(kinds), k=rng.randint(0, 5))]
            told = least(sketch)
            wanted = sorted({claim for claim in all_claims(sketch) if true_in(told, claim)
                             and any(claim[:2] == ceiling[:2] and claim[2] not in ceiling[2] for ceiling in ceilings)})
            self.assertEqual(barred(sketch, ceilings), wanted)
            self.assertIs(is_under(told, ceilings), wanted == [])
            asked[wanted == []] += 1
        self.assertGreater(min(asked.values()), 100)

    def test_a_table_under_ceilings_is_there_exactly_if_the_least_is(self):
        asked = {True: 0, False: 0}
        for seed in range(60):
            rng = random.Random(seed)
            sketch = small_sketch(rng, 4)
            kinds = depths(sketch)
            letting = [table for table in all_tables(sketch) if fulfils(sketch, table)]
            for _ in range(5):
                ceilings = [(name, rng.randint(0, kinds[name]), rng.choice(RIGHTS))
                            for name in rng.choices(list(kinds), k=2)]
                there = any(is_under(table, ceilings) for table in letting)
                self.assertIs(is_under(least(sketch), ceilings), there)
                self.assertIs(barred(sketch, ceilings) == [], there)
                asked[there] += 1
        self.assertGreater(min(asked.values()), 30)

    def test_arguments_stay(self):
        ceilings = [("n", 0, "-"), ("a", 1, "r")]
        table = {"n": ("rw",), "a": ("r", "w")}
        is_under(table, ceilings)
        fulfils(self.SKETCH, table)
        barred(self.SKETCH, ceilings).clear()
        self.assertEqual(ceilings, [("n", 0, "-"), ("a", 1, "r")])
        self.assertEqual(table, {"n": ("rw",), "a": ("r", "w")})
        self.assertEqual(barred(self.SKETCH, ceilings), [("a", 1, "w"), ("n", 0, "r"), ("n", 0, "w")])
        self.assertEqual(len(blocks(self.SKETCH)), 2)
