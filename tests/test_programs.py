import unittest

from rightskept.errors import RightsError, TextError
from rightskept.programs import Function, Program, is_sketch, variables, with_table

NUMBER = ("number", 0)
NULL = ("null",)


class Hostile:
    """An object that answers nothing."""

    def __eq__(self, other):
        raise RuntimeError("asked")

    def __hash__(self):
        raise RuntimeError("asked")

    def __len__(self):
        raise RuntimeError("asked")


def names(many, first="v"):
    """So many different names."""
    return [first + chr(ord("a") + k // 26) + chr(ord("a") + k % 26) for k in range(many)]


def lets(many, first="v"):
    return [("let", name, ("rw",), NUMBER) for name in names(many, first)]


def puts(many):
    return [("put", ("x", 0), NUMBER)] * many


class ProgramCase(unittest.TestCase):
    def taken(self, functions, statements):
        program = Program(functions, statements)
        self.assertEqual(program.statements, statements)
        self.assertEqual([(f.name, f.params, f.body) for f in program.functions],
                         [(f.name, f.params, f.body) for f in functions])
        return program

    def refused(self, functions, statements):
        with self.assertRaises(RightsError) as caught:
            Program(functions, statements)
        self.assertEqual(caught.exception.reason, "no program")
        self.assertNotIsInstance(caught.exception, TextError)

    def everywhere(self, ask, statement):
        """Asks for a statement among a program's and in a body."""
        ask([], [statement])
        ask([], puts(3) + [statement] + puts(2))
        ask([Function("f", [], [statement])], [])
        ask([Function("f", [], []), Function("g", [], puts(2) + [statement])], puts(1))

    def taken_source(self, source):
        self.everywhere(self.taken, ("let", "v", ("rw",), source))
        self.everywhere(self.taken, ("put", ("x", 1), source))
        self.taken([Function("h", [("p", ("r",))], [])], [("call", "h", [source])])
        self.taken([Function("h", [("p", ("r",)), ("q", ("r",))], [])], [("call", "h", [NUMBER, source])])

    def refused_source(self, source):
        self.everywhere(self.refused, ("let", "v", ("rw",), source))
        self.everywhere(self.refused, ("put", ("x", 1), source))
        self.refused([Function("h", [("p", ("r",))], [])], [("call", "h", [source])])
        self.refused([Function("h", [("p", ("r",)), ("q", ("r",))], [])], [("call", "h", [NUMBER, source])])

    def taken_place(self, place):
        self.everywhere(self.taken, ("put", place, NUMBER))
        self.taken_source(("value", place))
        self.taken_source(("address", place))

    def refused_place(self, place):
        self.everywhere(self.refused, ("put", place, NUMBER))
        self.refused_source(("value", place))
        self.refused_source(("address", place))

    def taken_name(self, name):
        self.taken([Function(name, [], [])], [])
        self.taken([Function("f", [(name, ("r",))], [])], [])
        self.everywhere(self.taken, ("let", name, ("rw",), NUMBER))
        self.taken([Function(name, [], [])], [("call", name, [])])
        self.taken_place((name, 1))

    def refused_name(self, name):
        self.refused([Function(name, [], [])], [])
        self.refused([Function("f", [(name, ("r",))], [])], [])
        self.everywhere(self.refused, ("let", name, ("rw",), NUMBER))
        self.refused([Function("f", [], [])], [("call", name, [])])
        self.refused([Function(name, [], [])], [("call", name, [])])
        self.refused_place((name, 1))

    def taken_kind(self, kind):
        self.everywhere(self.taken, ("let", "v", kind, NUMBER))
        self.taken([Function("f", [("p", kind)], [])], [])

    def refused_kind(self, kind):
        self.everywhere(self.refused, ("let", "v", kind, NUMBER))
        self.refused([Function("f", [("p", kind)], [])], [])
        self.refused([Function("f", [("p", ("r",)), ("q", kind)], [])], [])


class PartsTest(ProgramCase):
    def test_nothing(self):
        self.taken([], [])
        self.taken([Function("f", [], [])], [])

    def test_names(self):
        for name in ("a", "z", "x", "abcdefgh", "zzzzzzzz", "nul", "nulls", "anull", "let", "put", "call", "def",
                     "number"):
            self.taken_name(name)
        for name in ("", "abcdefghi", "abcdefghijkl", "A", "aB", "a1", "1", "a_b", "_a", "a b", " a", "a\n", "a.",
                     "*a", "&a", "\u00e4", "\u0430", "\uff41", "null"):
            self.refused_name(name)
        for name in (None, 0, 1, True, b"a", ("a",), ["a"], {"a": 1}, Hostile()):
            self.refused_name(name)

    def test_numbers(self):
        for number in (0, 1, 7, 999, 1000):
            self.taken_source(("number", number))
        for number in (1001, 10 ** 30, -1, True, False, None, 1.0, "1", "", (1,), [1], Hostile()):
            self.refused_source(("number", number))

    def test_stars(self):
        for stars in range(6):
            self.taken_place(("x", stars))
        for stars in (6, 7, 100, -1, True, False, None, 1.0, "1", (0,), [0], Hostile()):
            self.refused_place(("x", stars))

    def test_types(self):
        for kind in [("rw",), ("r",), ("w",), ("-",), ("r", "w", "-", "rw", "r", "w")]:
            self.taken_kind(kind)
        for kind in [("r",) * 7, (), ("wr",), ("",), ["r"], "r", ("r", 0), (0,), (("r",),), None, {"r": 1},
                     Hostile(), (Hostile(),)]:
            self.refused_kind(kind)

    def test_depths(self):
        for depth in range(6):
            self.everywhere(self.taken, ("let", "v", depth, NUMBER))
            self.taken([Function("f", [("p", depth), ("q", 5 - depth)], [])], [("let", "x", 2, NULL)])
        for depth in (6, 7, 1000, -1, True, False, 1.0, "1", None):
            self.everywhere(self.refused, ("let", "v", depth, NUMBER))
            self.refused([Function("f", [("p", depth), ("q", 1)], [])], [])

    def test_types_beside_depths(self):
        typed, counted = ("let", "x", ("r",), NUMBER), ("let", "y", 0, NUMBER)
        self.refused([], [typed, counted])
        self.refused([], [counted, typed])
        self.refused([Function("f", [("p", ("r",)), ("q", 0)], [])], [])
        self.refused([Function("f", [("p", 0)], [typed])], [])
        self.refused([Function("f", [], [typed])], [counted])
        self.refused([Function("f", [("p", ("r",))], [])], [counted])
        self.refused([Function("f", [], [typed]), Function("g", [], [counted])], [])
        self.refused([], [counted] * 1 + lets(3) + [("let", "z", 1, NULL)])

    def test_sources(self):
        for source in (NUMBER, NULL, ("value", ("x", 0)), ("address", ("x", 5))):
            self.taken_source(source)
        place = ("x", 0)
        for source in [(), ("number",), ("number", 1, 1), ("null", 0), ("null", None), ("null", place),
                       ("value",), ("value", place, place), ("value", "x"), ("value", "x", 0), ("value", 0),
                       ("value", None), ("value", ("number", 1, 1)), ("address",), ("address", place, 0),
                       ("address", "x"), ("address", NULL), ("address", ("value", place)), ("Null",), ("nil",),
                       ("Number", 1), ("val", place), ("", place), ("let", place), (None,), (None, 1), (1, 1),
                       (True, place), (("null",),), (["null"],), ("number", place), ["null"], ["number", 1],
                       ["value", place], "null", "", 0, 7, True, None, {}, {"null": 1}, place,
                       (Hostile(), 1), Hostile()]:
            self.refused_source(source)

    def test_places(self):
        for place in [(), ("x",), ("x", 0, 0), (0, "x"), ["x", 0], "x", "x0", ("x", ("x", 0)), (("x", 0),), None,
                      0, True, {"x": 0}, Hostile(), (Hostile(), 0), NUMBER + (0,), NULL]:
            self.refused_place(place)

    def test_statements(self):
        place, source, rights = ("x", 0), NUMBER, ("r",)
        for statement in [("let", "v", rights, source), ("let", "v", 0, source), ("put", place, source)]:
            self.everywhere(self.taken, statement)
        for statement in [(), ("let",), ("let", "v"), ("let", "v", rights), ("let", "v", rights, source, source),
                          ("let", "v", source), ("let", rights, "v", source), ("let", "v", source, rights),
                          ("put",), ("put", place), ("put", place, source, source), ("put", source, place),
                          ("put", "x", source), ("put", "x", 0, source), ("put", ("value", place), source),
                          ("call",), ("call", "g"), ("call", []), ("Let", "v", rights, source),
                          ("set", place, source), ("", place, source), (None, place, source),
                          (0, "v", rights, source), (True,), (("put",), place, source),
                          (["put"], place, source), ["put", place, source], ["let", "v", rights, source],
                          "put", "", None, 0, True, {}, {"put": 1}, [], place, source, Hostile(),
                          (Hostile(), place, source)]:
            self.everywhere(self.refused, statement)

    def test_parts_of_calls(self):
        one = Function("g", [("p", ("r",))], [])
        none = Function("h", [], [])
        self.taken([one, none], [("call", "g", [NUMBER]), ("call", "h", [])])
        for call in [("call", "g", (NUMBER,)), ("call", "g", NUMBER), ("call", "g", NUMBER, []), ("call", "h"),
                     ("call", "h", ()), ("call", "h", None), ("call", "h", {}), ("call", "h", ""), ("call", "h", 0),
                     ("call", "h", [], []), ("call", ["h"], []), ("call", ("h",), []), ("call", none, []),
                     ("call", "g", [[NUMBER]]), ("call", "g", [["number", 0]]), ("call", "g", ["g"]),
                     ["call", "h", []], ("calls", "h", []), ("call", Hostile(), []), ("call", "h", Hostile())]:
            self.refused([one, none], [call])
            self.refused([one, none, Function("k", [], [call])], [])


class FunctionsTest(ProgramCase):
    def test_parameters(self):
        for params in [[("p", ("r",))], [("p", 0)], [(name, ("r",)) for name in names(4)]]:
            self.taken([Function("f", params, [])], [])
        for params in [[(name, ("r",)) for name in names(5)], [(name, 1) for name in names(5)], [()], [("p",)],
                       [("p", ("r",), 0)], [["p", ("r",)]], ["p"], [None], [(("r",), "p")], [("p", None)],
                       [("let", "p", ("r",))], (), (("p", ("r",)),), None, "p", {"p": ("r",)}, 0, Hostile()]:
            self.refused([Function("f", params, [])], [])
            self.refused([Function("g", [], []), Function("f", params, [])], puts(2))

    def test_bodies(self):
        for body in [[], puts(12), lets(12)]:
            self.taken([Function("f", [], body)], [])
        for body in [puts(13), lets(13), (), tuple(puts(1)), None, "", {}, 0, Hostile()]:
            self.refused([Function("f", [], body)], [])
            self.refused([Function("f", [], []), Function("g", [], body)], [])

    def test_how_many_statements(self):
        self.taken([], puts(40))
        self.taken([], lets(40))
        self.refused([], puts(41))
        self.refused([], lets(41))
        self.refused([], puts(1000))

    def test_how_many_functions(self):
        for many in range(5):
            self.taken([Function(name, [], []) for name in names(many)], [])
        self.refused([Function(name, [], []) for name in names(5)], [])
        self.refused([Function(name, [], []) for name in names(50)], [])

    def test_the_largest(self):
        functions = [Function(name, [(name + "p" + sign, ("r",) * 6) for sign in "abcd"], lets(12, name))
                     for name in names(4, "f")]
        self.taken(functions, lets(40))

    def test_no_lists_and_no_functions(self):
        for functions in [None, (), (Function("f", [], []),), {}, "", 0, True, Hostile()]:
            self.refused(functions, [])
        for thing in [None, "f", 0, ("f", [], []), ["f", [], []], {}, Function, [Function("f", [], [])], Hostile(),
                      Program([], [])]:
            self.refused([thing], [])
            self.refused([Function("f", [], []), thing], [])
        for statements in [None, (), tuple(puts(2)), {}, "", 0, True, Hostile()]:
            self.refused([], statements)
            self.refused([Function("f", [], [])], statements)

    def test_a_body_is_judged_by_judging(self):
        """Unknown names, too many stars and null for a number are faults, but leave a program one."""
        self.taken([Function("f", [], [("put", ("a", 5), ("value", ("b", 5)))])], [("put", ("c", 3), NULL)])
        self.taken([], [("put", ("x", 0), NUMBER), ("let", "x", ("-",), NULL)])
        self.taken([Function("f", [("p", ("r",))], [])], [("put", ("p", 0), NUMBER), ("put", ("f", 0), NUMBER)])


class NamesTest(ProgramCase):
    def test_had_twice(self):
        let = ("let", "x", ("r",), NUMBER)
        param = ("x", ("r",))
        plain = Function("f", [], [])
        self.taken([Function("f", [("y", ("r",))], [("let", "z", ("r",), NUMBER)])], [let])
        self.refused([], [let, let])
        self.refused([], [let] + puts(3) + [("let", "x", ("w", "r"), NULL)])
        self.refused([plain, plain], [])
        self.refused([plain, Function("g", [], []), Function("f", [param], [])], [])
        self.refused([Function("f", [param, param], [])], [])
        self.refused([Function("f", [param], [let])], [])
        self.refused([Function("f", [param], [])], [let])
        self.refused([Function("f", [], [let])], [let])
        self.refused([Function("f", [], [let, let])], [])
        self.refused([Function("f", [param], []), Function("g", [param], [])], [])
        self.refused([Function("f", [param], []), Function("g", [], [let])], [])
        self.refused([Function("f", [], [let]), Function("g", [param], [])], [])
        self.refused([Function("f", [], [let]), Function("g", [], [let])], [])
        self.refused([Function("x", [param], [])], [])
        self.refused([Function("x", [], [let])], [])
        self.refused([Function("x", [], [])], [let])
        self.refused([Function("x", [], []), Function("g", [param], [])], [])
        self.refused([Function("g", [param], []), Function("x", [], [])], [])
        self.refused([Function("g", [], [let]), Function("x", [], [])], [])

    def test_of_sketches(self):
        self.refused([Function("f", [("x", 0)], [])], [("let", "x", 0, NUMBER)])


class CallsTest(ProgramCase):
    def setUp(self):
        self.none = Function("none", [], [])
        self.two = Function("two", [("a", ("r",)), ("b", ("r",))], [])

    def test_of_the_program(self):
        self.taken([self.none, self.two], [("call", "none", []), ("call", "two", [NUMBER, NULL])] * 2)

    def test_another_number_of_sources(self):
        for many in (0, 1, 3, 4, 5, 30):
            call = ("call", "two", [NUMBER] * many)
            self.refused([self.two], [call])
            self.refused([self.two, Function("g", [], [call])], [])
        for many in (1, 2):
            self.refused([self.none, self.two], [("call", "none", [NUMBER] * many)])

    def test_unknown_functions(self):
        self.refused([], [("call", "none", [])])
        self.refused([self.two], [("call", "none", [])])
        self.refused([self.two], [("call", "a", [])])
        self.refused([], [("let", "x", ("r",), NUMBER), ("call", "x", [])])
        self.refused([Function("g", [], [("call", "none", [])])], [])

    def test_earlier_functions(self):
        earlier = ("call", "two", [NUMBER, NUMBER])
        self.taken([self.none, self.two, Function("g", [], [earlier, ("call", "none", [])]),
                    Function("h", [], [("call", "g", []), earlier])], [("call", "h", [])])

    def test_later_functions(self):
        self.refused([Function("g", [], [("call", "none", [])]), self.none], [])
        self.refused([Function("g", [], [("call", "two", [NUMBER, NUMBER])]), self.none, self.two], [])

    def test_itself(self):
        self.refused([Function("g", [], [("call", "g", [])])], [])
        self.refused([self.none, Function("g", [("p", ("r",))], [("call", "g", [NUMBER])])], [])


class CopiesTest(ProgramCase):
    def made(self):
        sources = [NUMBER]
        params = [("p", ("r",))]
        body = [("put", ("p", 0), NUMBER), ("call", "e", sources)]
        return sources, params, body

    def test_fields(self):
        _, params, body = self.made()
        function = Function("f", params, body)
        self.assertEqual((function.name, function.params, function.body), ("f", params, body))
        self.assertIsNot(function.params, params)
        self.assertIsNot(function.body, body)

    def test_function(self):
        sources, params, body = self.made()
        function = Function("f", params, body)
        sources.append(NULL)
        sources[0] = NULL
        params.clear()
        body[0] = None
        body.append(None)
        self.assertEqual(function.params, [("p", ("r",))])
        self.assertEqual(function.body, [("put", ("p", 0), NUMBER), ("call", "e", [NUMBER])])

    def test_program(self):
        sources, params, body = self.made()
        called = [NULL]
        first = Function("e", [("q", ("r",))], [])
        second = Function("f", params, body)
        functions = [first, second]
        statements = [("let", "x", ("r", "w"), NULL), ("call", "f", called)]
        program = Program(functions, statements)
        self.assertIsNot(program.functions, functions)
        self.assertIsNot(program.functions[1], second)
        self.assertIsInstance(program.functions[1], Function)
        called.append(called)
        statements.reverse()
        statements.pop()
        functions.clear()
        second.name = "g"
        second.params.append(second.params[0])
        second.body[1][2].append(NULL)
        second.body.pop(0)
        first.params = None
        self.assertEqual([(f.name, f.params, f.body) for f in program.functions],
                         [("e", [("q", ("r",))], []),
                          ("f", [("p", ("r",))], [("put", ("p", 0), NUMBER), ("call", "e", [NUMBER])])])
        self.assertEqual(program.statements, [("let", "x", ("r", "w"), NULL), ("call", "f", [NULL])])

    def test_programs_of_the_same_functions(self):
        function = Function("f", [("p", ("r",))], [])
        one, two = Program([function], []), Program([function], [])
        one.functions[0].params.clear()
        self.assertEqual(two.functions[0].params, [("p", ("r",))])
        self.assertEqual(function.params, [("p", ("r",))])

    def test_arguments_stay(self):
        sources, params, body = self.made()
        functions = [Function("e", [("q", ("r",))], []), Function("f", params, body)]
        kept = list(functions)
        statements = [("call", "f", sources)]
        Program(functions, statements)
        self.assertEqual(functions, kept)
        self.assertEqual((sources, params, body), self.made())
        self.assertEqual(statements, [("call", "f", [NUMBER])])
        self.assertEqual((functions[1].params, functions[1].body), (params, body))

    def test_refused_arguments_stay(self):
        statements = [("call", "f", [NUMBER]), ["put"]]
        self.refused([Function("f", [], [])], statements)
        self.assertEqual(statements, [("call", "f", [NUMBER]), ["put"]])


def sketch():
    return Program(
        [Function("f", [("b", 1), ("a", 0)], [("put", ("b", 1), NUMBER), ("let", "d", 2, NULL)]),
         Function("g", [], [("let", "c", 0, NUMBER), ("call", "f", [("address", ("c", 0)), NUMBER])])],
        [("let", "z", 5, NULL), ("put", ("z", 0), NULL), ("let", "e", 0, NUMBER), ("call", "g", [])])


TABLE = {"b": ("r", "w"), "a": ("-",), "d": ("-", "-", "-"), "c": ("w",), "z": ("rw", "r", "w", "-", "r", "w"),
         "e": ("rw",)}


class SketchesTest(ProgramCase):
    def test_is_sketch(self):
        self.assertIs(is_sketch(sketch()), True)
        self.assertIs(is_sketch(Program([], [("let", "x", 0, NUMBER)])), True)
        self.assertIs(is_sketch(Program([Function("f", [("x", 5)], [])], [])), True)
        self.assertIs(is_sketch(Program([Function("f", [], [("let", "x", 0, NULL)])], puts(3))), True)
        self.assertIs(is_sketch(Program([], [("let", "x", ("r",), NUMBER)])), False)
        self.assertIs(is_sketch(Program([Function("f", [("x", ("-",))], [])], [])), False)
        self.assertIs(is_sketch(Program([Function("f", [], [("let", "x", ("r",), NULL)])], puts(3))), False)

    def test_without_any_types(self):
        self.assertIs(is_sketch(Program([], [])), False)
        self.assertIs(is_sketch(Program([Function("f", [], puts(2))], puts(2) + [("call", "f", [])])), False)

    def test_variables(self):
        self.assertEqual(variables(sketch()), ["b", "a", "d", "c", "z", "e"])
        self.assertEqual(variables(with_table(sketch(), TABLE)), ["b", "a", "d", "c", "z", "e"])
        self.assertEqual(variables(Program([], [])), [])
        self.assertEqual(variables(Program([Function("f", [], puts(2))], puts(2))), [])

    def test_variables_belong_to_the_caller(self):
        program = sketch()
        variables(program).clear()
        self.assertEqual(variables(program), ["b", "a", "d", "c", "z", "e"])

    def test_with_table(self):
        program = with_table(sketch(), TABLE)
        self.assertIsInstance(program, Program)
        self.assertIs(is_sketch(program), False)
        self.assertEqual([(f.name, f.params, f.body) for f in program.functions], [
            ("f", [("b", ("r", "w")), ("a", ("-",))], [("put", ("b", 1), NUMBER), ("let", "d", ("-",) * 3, NULL)]),
            ("g", [], [("let", "c", ("w",), NUMBER), ("call", "f", [("address", ("c", 0)), NUMBER])])])
        self.assertEqual(program.statements, [
            ("let", "z", ("rw", "r", "w", "-", "r", "w"), NULL), ("put", ("z", 0), NULL),
            ("let", "e", ("rw",), NUMBER), ("call", "g", [])])

    def test_with_table_changes_and_shares_nothing(self):
        before, table = sketch(), dict(TABLE)
        program = with_table(before, table)
        self.assertEqual(table, TABLE)
        self.assertEqual([(f.name, f.params, f.body) for f in before.functions],
                         [(f.name, f.params, f.body) for f in sketch().functions])
        self.assertEqual(before.statements, sketch().statements)
        table.clear()
        before.functions[1].body[1][2].clear()
        before.statements[3][2].append(NULL)
        before.statements.clear()
        fresh = with_table(sketch(), TABLE)
        self.assertEqual(program.statements, fresh.statements)
        self.assertEqual(program.functions[1].body, fresh.functions[1].body)

    def test_table_of_a_program_without_types(self):
        bare = Program([Function("f", [], puts(2))], [("call", "f", [])])
        program = with_table(bare, {})
        self.assertIsNot(program, bare)
        self.assertEqual(program.statements, bare.statements)
        self.assertEqual(program.functions[0].body, puts(2))

    def test_all_depths(self):
        for depth in range(6):
            program = with_table(Program([], [("let", "x", depth, NULL)]), {"x": ("r",) * (depth + 1)})
            self.assertEqual(program.statements, [("let", "x", ("r",) * (depth + 1), NULL)])
