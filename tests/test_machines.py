import copy
import random
import unittest

from rightskept.errors import RightsError, TextError
from rightskept.judging import faults
from rightskept.machines import Machine
from rightskept.programs import Function, Program
from rightskept.running import run
from drawing import Drawer
from model import goes
from tables import value_types

NULL = ("null",)
RW = ("rw",)
RWRW = ("rw", "rw")
DEEP = ("rw", "rw", "rw")
BARRED = [(one, two) for one in value_types(1) + value_types(2) for two in value_types(len(one))
          if not goes(one, two)]


class Hostile:
    """An object that answers nothing."""

    def __eq__(self, other):
        raise RuntimeError("asked")

    def __hash__(self):
        raise RuntimeError("asked")

    def __len__(self):
        raise RuntimeError("asked")


def number(n):
    return ("number", n)


def value(name, stars=0):
    return ("value", (name, stars))


def address(name, stars=0):
    return ("address", (name, stars))


def let(name, kind, source):
    return ("let", name, kind, source)


def put(name, stars, source):
    return ("put", (name, stars), source)


def state(machine):
    return machine.breaches(), machine.things()


class MachineCase(unittest.TestCase):
    def raises(self, reason, ask, *arguments):
        with self.assertRaises(RightsError) as caught:
            ask(*arguments)
        self.assertEqual(caught.exception.reason, reason)
        self.assertNotIsInstance(caught.exception, TextError)

    def refused(self, machine, statement, reason):
        """What is refused changes nothing."""
        before = state(machine)
        self.raises(reason, machine.do, statement)
        self.assertEqual(state(machine), before)

    def done(self, machine, *statements):
        for statement in statements:
            self.assertEqual(machine.do(statement), "done")

    def stopped(self, machine, statement):
        before = state(machine)
        self.assertEqual(machine.do(statement), "stopped")
        self.assertEqual(state(machine), before)

    def like_run(self, machine, functions, statements, extra=()):
        """breaches, things and type_of tell what a run of the same statements does."""
        ended, breaches, things = run(Program(functions, statements), list(extra))
        self.assertEqual((ended, machine.breaches(), machine.things()), ("done", breaches, things))
        for statement in statements:
            if statement[0] == "let":
                self.assertEqual(machine.type_of(statement[1]), statement[2])


class BeginningTest(MachineCase):
    def test_it_has_done_nothing(self):
        machine = Machine([], [])
        self.assertEqual(state(machine), ([], []))
        self.assertIs(machine.undo(), False)
        machine = Machine([Function("f", [("a", RW)], [let("b", RW, value("a"))])], [])
        self.assertEqual(state(machine), ([], []))
        self.assertIs(machine.undo(), False)

    def test_no_program(self):
        none = Function("f", [], [])
        for functions in [None, (), "", {}, 0, [None], ["f"], [none, none], [none, ("f", [], [])], Hostile(),
                          [Hostile()], [Function(name, [], []) for name in ("a", "b", "c", "d", "e")],
                          [Function("null", [], [])], [Function("f", [("f", RW)], [])],
                          [Function("f", [("a", RW), ("a", RW)], [])], [Function("f", [("a", RW), ("b", 0)], [])],
                          [Function("f", [], [("call", "f", [])])],
                          [Function("f", [], [("call", "g", [])]), Function("g", [], [])],
                          [none, Function("g", [], [("call", "f", [NULL])])],
                          [Function("f", [], [put("x", 0, number(1))] * 13)],
                          [Function("f", [], [put("x", 0, number(1001))])], [Function("f", [], [None])]]:
            self.raises("no program", Machine, functions, [])

    def test_not_let_by(self):
        none = Function("f", [], [])
        for body in ([put("x", 0, number(1))], [put("a", 1, number(1))], [let("x", RW, NULL)],
                     [let("x", ("r",), number(1)), put("x", 0, number(1))],
                     [let("x", ("w",), number(1)), let("y", ("w",), value("x"))],
                     [let("x", ("r",), number(1)), let("y", RWRW, address("x"))]):
            self.raises("not let by", Machine, [Function("g", [("a", RW)], body)], [])
            self.raises("not let by", Machine, [none, Function("g", [("a", RW)], body)], [])
            self.raises("not let by", Machine, [Function("g", [("a", RW)], body), none], [])

    def test_extra_conversions_count(self):
        functions = [Function("f", [("a", ("rw", "r"))], [let("b", RWRW, value("a"))])]
        self.raises("not let by", Machine, functions, [])
        self.raises("not let by", Machine, functions, [(("rw",), ("r",))])
        self.assertEqual(state(Machine(functions, [(("r",), ("rw",))])), ([], []))

    def test_no_program_comes_first(self):
        bad = Function("f", [], [put("x", 0, number(1))])
        self.raises("not let by", Machine, [bad], [])
        self.raises("no program", Machine, [bad, bad], [])
        self.raises("no program", Machine, [bad, None], [])
        self.raises("no program", Machine, [bad, Function("g", [("f", RW)], [])], [])

    def test_programs_have_types(self):
        self.raises("no program", Machine, [Function("f", [("a", 0)], [])], [])
        self.raises("no program", Machine, [Function("f", [], [let("a", 0, number(1))])], [])


class DoTest(MachineCase):
    def test_lets(self):
        machine = Machine([], [])
        self.done(machine, let("x", RW, number(4)), let("p", RWRW, address("x")), let("q", ("rw", "r"), NULL),
                  let("y", ("r",), value("p", 1)))
        self.assertEqual(state(machine), ([], [("x", RW, 4), ("p", RWRW, ("thing", 0)), ("q", ("rw", "r"), None),
                                               ("y", ("r",), 4)]))

    def test_puts(self):
        machine = Machine([], [])
        self.done(machine, let("x", RW, number(4)), let("p", RWRW, NULL), put("x", 0, number(5)),
                  put("p", 0, address("x")), put("p", 1, number(6)))
        self.assertEqual(state(machine), ([], [("x", RW, 6), ("p", RWRW, ("thing", 0))]))

    def test_calls(self):
        functions = [Function("f", [("a", RWRW)], [put("a", 1, number(7)), let("b", RW, value("a", 1))]),
                     Function("g", [("c", RW)], [("call", "f", [address("c")])])]
        machine = Machine(functions, [])
        self.done(machine, let("x", RW, number(4)), ("call", "f", [address("x")]), ("call", "g", [number(2)]),
                  ("call", "g", [value("x")]))
        self.assertEqual(state(machine), ([], [
            ("x", RW, 7), ("a", RWRW, ("thing", 0)), ("b", RW, 7), ("c", RW, 7), ("a", RWRW, ("thing", 3)),
            ("b", RW, 7), ("c", RW, 7), ("a", RWRW, ("thing", 6)), ("b", RW, 7)]))

    def test_breaches(self):
        machine = Machine([Function("f", [("a", RWRW)], [put("a", 1, value("a", 1))])], [(("-",), ("rw",))])
        self.done(machine, let("x", ("-",), number(4)), ("call", "f", [address("x")]), let("p", RWRW, address("x")),
                  put("p", 1, number(1)), let("y", RW, value("p", 1)))
        self.assertEqual(machine.breaches(), [("r", 0), ("w", 0), ("w", 0), ("r", 0)])


class NoProgramTest(MachineCase):
    def setUp(self):
        self.functions = [Function("f", [("a", RW)], [let("b", RW, value("a"))]), Function("g", [], [])]
        self.machine = Machine(self.functions, [])
        self.done(self.machine, let("x", RW, number(1)), let("p", RWRW, address("x")))

    def no_program(self, *statements):
        for statement in statements:
            self.refused(self.machine, statement, "no program")
        self.like_run(self.machine, self.functions, [let("x", RW, number(1)), let("p", RWRW, address("x"))])

    def test_names_had_twice(self):
        self.no_program(*[let(name, RW, number(1)) for name in ("x", "p", "a", "b", "f", "g")])

    def test_functions(self):
        self.no_program(("call", "h", []), ("call", "x", []), ("call", "f", []), ("call", "f", [NULL, NULL]),
                        ("call", "g", [number(1)]), ("call", "", []), ("call", "f", [None]))

    def test_no_statements(self):
        self.no_program(None, "", "let", 0, True, (), [], {}, Hostile(), Function, self.machine, NULL, ("let",),
                        ("let", "y", RW), let("y", RW, None), let("Y", RW, NULL), let("null", RW, NULL),
                        let("y", (), number(1)), let("y", ("wr",), number(1)), let("y", ["rw"], number(1)),
                        let("y", RW, ("number", 1001)), let("y", RW, ("number", True)), put("x", 6, number(1)),
                        put("x", -1, number(1)), ["put", ("x", 0), number(1)], ("put", "x", number(1)),
                        ("get", ("x", 0), number(1)), (Hostile(), ("x", 0), number(1)), ("call", "g", ()),
                        ("call", Hostile(), []), let("y", RW, Hostile()), [put("x", 0, number(1))])

    def test_types_beside_depths(self):
        self.no_program(let("y", 0, number(1)), let("y", 1, NULL))
        machine = Machine([], [])
        self.done(machine, let("x", RW, number(1)))
        self.refused(machine, let("y", 0, number(1)), "no program")
        machine = Machine(self.functions, [])
        self.refused(machine, let("y", 0, number(1)), "no program")
        machine = Machine([], [])
        self.refused(machine, let("y", 0, number(1)), "no program")
        self.done(machine, let("y", RW, number(1)))

    def test_a_41st_statement(self):
        statements = [put("x", 0, number(at)) for at in range(38)]
        self.done(self.machine, *statements)
        self.refused(self.machine, put("x", 0, number(1)), "no program")
        self.refused(self.machine, ("call", "g", []), "no program")
        self.refused(self.machine, put("zz", 0, number(1)), "no program")
        self.assertIs(self.machine.undo(), True)
        self.done(self.machine, ("call", "g", []))
        self.refused(self.machine, put("x", 0, number(1)), "no program")

    def test_what_was_refused_counts_for_nothing(self):
        for _ in range(100):
            self.refused(self.machine, put("zz", 0, number(1)), "unknown name")
            self.refused(self.machine, let("y", RW, NULL), "other depth")
        self.done(self.machine, *[put("x", 0, number(1))] * 37)
        self.done(self.machine, let("y", RW, number(3)))


class FaultsTest(MachineCase):
    def setUp(self):
        self.functions = [Function("f", [("a", RW), ("b", ("r", "rw"))], [let("c", RW, value("a"))])]
        self.machine = Machine(self.functions, [(("r",), ("w",))])
        self.lets = [let("n", RW, number(1)), let("look", ("r",), number(2)), let("give", ("w",), number(3)),
                     let("p", RWRW, NULL), let("givep", ("w", "rw"), NULL)]
        self.done(self.machine, *self.lets)

    def test_each(self):
        for statement, reason in [
                (let("y", RW, value("zz")), "unknown name"), (let("y", RW, value("y")), "unknown name"),
                (let("y", RW, value("a")), "unknown name"), (let("y", RW, value("c")), "unknown name"),
                (let("y", RW, value("f")), "unknown name"),
                (let("y", RW, value("n", 1)), "too many stars"), (let("y", RW, value("givep", 1)), "may not read"),
                (let("y", RW, value("give")), "may not read"), (let("y", RW, NULL), "other depth"),
                (let("y", RWRW, number(1)), "other depth"), (let("y", RWRW, address("p")), "other depth"),
                (let("y", RWRW, address("look")), "no conversion"),
                (put("zz", 0, value("n", 1)), "unknown name"), (put("n", 1, value("zz")), "too many stars"),
                (put("givep", 1, value("zz")), "may not read"), (put("look", 0, value("zz")), "may not write"),
                (put("n", 0, value("give")), "may not read"), (put("n", 0, NULL), "other depth"),
                (put("p", 0, address("look")), "no conversion"),
                (("call", "f", [value("zz"), value("n", 1)]), "unknown name"),
                (("call", "f", [number(1), value("n", 1)]), "too many stars"),
                (("call", "f", [NULL, address("look")]), "other depth"),
                (("call", "f", [value("n"), address("look")]), "no conversion")]:
            self.refused(self.machine, statement, reason)
        self.like_run(self.machine, self.functions, self.lets, [(("r",), ("w",))])

    def test_extra_conversions_count(self):
        self.done(self.machine, let("y", ("r", "w"), address("look")), put("y", 1, number(1)))
        self.assertEqual(self.machine.breaches(), [("w", 1)])

    def test_a_fault_makes_no_variable_known(self):
        self.refused(self.machine, let("y", RW, NULL), "other depth")
        self.refused(self.machine, put("y", 0, number(1)), "unknown name")
        self.done(self.machine, let("y", RW, number(1)), put("y", 0, number(1)))

    def test_no_program_comes_ahead_of_faults(self):
        self.refused(self.machine, let("n", RW, value("zz")), "no program")
        self.refused(self.machine, let("a", RW, value("zz")), "no program")
        self.refused(self.machine, ("call", "f", [value("zz")]), "no program")
        self.refused(self.machine, let("y", 0, value("zz")), "no program")

    def test_faults_come_ahead_of_stopping(self):
        self.refused(self.machine, put("p", 1, NULL), "other depth")
        self.refused(self.machine, ("call", "f", [value("p", 1), address("look")]), "no conversion")


class StoppedTest(MachineCase):
    def setUp(self):
        self.functions = [Function("f", [("a", RWRW)], [let("b", RW, number(1)), put("a", 1, number(9)),
                                                       put("b", 0, number(2))]),
                          Function("g", [("c", RWRW), ("d", DEEP)], [put("d", 1, NULL), ("call", "f", [value("c")])])]
        self.extra = [(("-", "rw"), RWRW), (("r",), ("rw",))]
        self.machine = Machine(self.functions, self.extra)
        self.statements = [let("x", RW, number(1)), let("p", RWRW, NULL), let("h", ("-", "rw"), NULL),
                           let("q", DEEP, address("h")), let("u", RWRW, address("x"))]
        self.done(self.machine, *self.statements)

    def same(self):
        self.like_run(self.machine, self.functions, self.statements, self.extra)

    def test_at_the_top(self):
        for statement in (let("y", RW, value("p", 1)), let("y", RWRW, address("p", 1)), put("p", 1, number(1)),
                          put("x", 0, value("p", 1)), ("call", "f", [address("p", 1)])):
            self.stopped(self.machine, statement)
        self.same()

    def test_its_breaches_are_none(self):
        for statement in (let("y", RW, value("q", 2)), put("q", 2, number(1)), ("call", "f", [address("q", 2)])):
            self.stopped(self.machine, statement)
        self.assertEqual(self.machine.breaches(), [])
        self.done(self.machine, let("y", RWRW, value("q", 1)))
        self.assertEqual(self.machine.breaches(), [("r", 2)])

    def test_within_a_body(self):
        self.stopped(self.machine, ("call", "f", [NULL]))
        self.stopped(self.machine, ("call", "f", [value("p")]))
        self.same()

    def test_within_a_body_that_wrote_already(self):
        self.stopped(self.machine, ("call", "g", [NULL, address("u")]))
        self.assertEqual(self.machine.things()[4], ("u", RWRW, ("thing", 0)))
        self.same()
        self.done(self.machine, ("call", "g", [value("u"), address("u")]))
        self.assertEqual(self.machine.things()[4], ("u", RWRW, None))

    def test_its_name_is_free(self):
        self.stopped(self.machine, let("y", RW, value("p", 1)))
        self.raises("unknown name", self.machine.type_of, "y")
        self.refused(self.machine, put("y", 0, number(1)), "unknown name")
        self.done(self.machine, let("y", DEEP, NULL))
        self.assertEqual(self.machine.type_of("y"), DEEP)

    def test_it_does_not_count(self):
        for _ in range(50):
            self.stopped(self.machine, put("p", 1, number(1)))
        self.done(self.machine, *[put("x", 0, number(3))] * 35)
        self.refused(self.machine, put("x", 0, number(1)), "no program")

    def test_it_is_not_what_undo_takes_back(self):
        self.stopped(self.machine, put("p", 1, number(1)))
        self.assertIs(self.machine.undo(), True)
        self.statements.pop()
        self.same()

    def test_it_may_be_done_later(self):
        self.stopped(self.machine, put("p", 1, number(5)))
        self.done(self.machine, put("p", 0, address("x")), put("p", 1, number(5)))
        self.assertEqual(self.machine.things()[0], ("x", RW, 5))


class TooLongTest(MachineCase):
    """g executes 1 + 12 * 13 statements, f 13, and k 2."""

    def setUp(self):
        self.functions = [Function("f", [("a", RW)], [put("a", 0, number(1))] * 12),
                          Function("g", [("b", RW)], [("call", "f", [value("b")])] * 12),
                          Function("k", [("c", RWRW)], [put("c", 1, number(8))])]
        self.machine = Machine(self.functions, [])
        self.statements = [let("x", RW, number(0)), let("p", RWRW, NULL)]
        self.statements += [("call", "g", [number(0)])] * 6 + [("call", "f", [number(0)])] * 4
        self.statements += [put("x", 0, number(2))] * 3
        self.done(self.machine, *self.statements)

    def same(self):
        self.like_run(self.machine, self.functions, self.statements)

    def test_1000_and_1001(self):
        """999 are executed: one more may be, and then no other one."""
        self.refused(self.machine, ("call", "k", [address("x")]), "too long")
        self.refused(self.machine, ("call", "f", [number(1)]), "too long")
        self.refused(self.machine, ("call", "g", [number(1)]), "too long")
        self.same()
        self.statements.append(put("x", 0, number(3)))
        self.done(self.machine, self.statements[-1])
        self.same()
        for statement in (put("x", 0, number(4)), let("y", RW, number(1)), ("call", "k", [address("x")])):
            self.refused(self.machine, statement, "too long")
        self.raises("unknown name", self.machine.type_of, "y")
        self.same()

    def test_1000_by_a_body(self):
        self.assertIs(self.machine.undo(), True)
        self.statements.pop()
        self.statements.append(("call", "k", [address("x")]))
        self.done(self.machine, self.statements[-1])
        self.refused(self.machine, put("x", 0, number(4)), "too long")
        self.same()

    def test_stopping_at_the_1000th_and_the_1001st(self):
        self.stopped(self.machine, put("p", 1, number(1)))
        self.refused(self.machine, ("call", "k", [NULL]), "too long")
        self.done(self.machine, put("x", 0, number(3)))
        self.refused(self.machine, put("p", 1, number(1)), "too long")
        self.refused(self.machine, ("call", "k", [NULL]), "too long")
        self.assertIs(self.machine.undo(), True)
        self.assertIs(self.machine.undo(), True)
        self.stopped(self.machine, ("call", "k", [NULL]))
        self.stopped(self.machine, put("p", 1, number(1)))

    def test_what_stopped_does_not_count(self):
        for _ in range(5):
            self.stopped(self.machine, put("p", 1, number(1)))
        self.done(self.machine, put("x", 0, number(3)))

    def test_undo_takes_back_how_many_they_were(self):
        for _ in range(7):
            self.assertIs(self.machine.undo(), True)
        self.refused(self.machine, ("call", "g", [number(0)]), "too long")
        self.done(self.machine, *[("call", "f", [number(0)])] * 4)
        self.done(self.machine, *[put("x", 0, number(2))] * 4)
        self.refused(self.machine, put("x", 0, number(2)), "too long")

    def test_faults_come_first(self):
        self.done(self.machine, put("x", 0, number(3)))
        self.refused(self.machine, put("x", 0, number(3)), "too long")
        self.refused(self.machine, put("x", 0, NULL), "other depth")
        self.refused(self.machine, ("call", "k", [address("p")]), "other depth")
        self.refused(self.machine, let("x", RW, number(3)), "no program")


class UndoTest(MachineCase):
    def test_down_to_nothing(self):
        extra = [(("-",), ("rw",))]
        functions = [Function("f", [("a", RWRW)], [let("b", RW, value("a", 1)), put("a", 1, number(7))])]
        machine = Machine(functions, extra)
        statements = [let("x", ("-",), number(4)), let("p", RWRW, address("x")), put("p", 1, number(5)),
                      ("call", "f", [value("p")]), let("y", RW, value("p", 1)), ("call", "f", [address("y")]),
                      put("p", 0, address("y")), put("p", 1, number(1))]
        self.done(machine, *statements)
        for many in range(len(statements), 0, -1):
            self.like_run(machine, functions, statements[:many], extra)
            self.assertIs(machine.undo(), True)
        for _ in range(3):
            self.assertEqual(state(machine), ([], []))
            self.assertIs(machine.undo(), False)
        self.done(machine, *statements)
        self.like_run(machine, functions, statements, extra)

    def test_do_again_with_the_same_name(self):
        machine = Machine([], [])
        self.done(machine, let("x", RW, number(4)), let("y", RW, number(5)))
        self.assertIs(machine.undo(), True)
        self.refused(machine, put("y", 0, number(1)), "unknown name")
        self.done(machine, let("y", ("r", "r"), address("x")))
        self.assertEqual(machine.type_of("y"), ("r", "r"))
        self.assertEqual(machine.things(), [("x", RW, 4), ("y", ("r", "r"), ("thing", 0))])
        self.refused(machine, let("y", RW, number(1)), "no program")
        self.refused(machine, put("y", 1, number(1)), "may not write")

    def test_what_was_written(self):
        machine = Machine([], [])
        self.done(machine, let("x", RW, number(4)), let("p", RWRW, address("x")), put("p", 1, number(5)),
                  put("p", 0, NULL))
        self.assertIs(machine.undo(), True)
        self.assertEqual(machine.things(), [("x", RW, 5), ("p", RWRW, ("thing", 0))])
        self.assertIs(machine.undo(), True)
        self.assertEqual(machine.things(), [("x", RW, 4), ("p", RWRW, ("thing", 0))])

    def test_behind_a_refusal(self):
        machine = Machine([], [])
        self.done(machine, let("x", RW, number(4)), put("x", 0, number(5)))
        self.refused(machine, let("x", RW, number(1)), "no program")
        self.refused(machine, put("x", 1, number(1)), "too many stars")
        self.assertIs(machine.undo(), True)
        self.assertEqual(machine.things(), [("x", RW, 4)])


class TypeOfTest(MachineCase):
    def test_types(self):
        machine = Machine([Function("f", [("a", RW)], [let("b", RW, value("a"))])], [])
        kinds = {"x": ("-",), "y": ("r", "w"), "z": ("rw",) * 6}
        self.done(machine, *[let(name, kind, number(1) if name == "x" else NULL) for name, kind in kinds.items()])
        self.done(machine, ("call", "f", [number(1)]))
        for name, kind in kinds.items():
            self.assertEqual(machine.type_of(name), kind)

    def test_unknown_names(self):
        machine = Machine([Function("f", [("a", RW)], [let("b", RW, value("a"))])], [])
        self.raises("unknown name", machine.type_of, "x")
        self.done(machine, let("x", RW, number(1)), ("call", "f", [value("x")]))
        for name in ("a", "b", "f", "xx", "y", "", "null", "X", None, 0, ("x", 0), ["x"], Hostile()):
            self.raises("unknown name", machine.type_of, name)
        machine.undo()
        self.assertEqual(machine.type_of("x"), RW)
        machine.undo()
        self.raises("unknown name", machine.type_of, "x")


class CopiesTest(MachineCase):
    def test_functions_and_extra_conversions(self):
        called = [value("a")]
        first = Function("e", [("s", ("r",))], [])
        second = Function("f", [("a", RW)], [("call", "e", called)])
        functions, extra = [first, second], [(("r",), ("rw",))]
        machine = Machine(functions, extra)
        called.append(NULL)
        functions.reverse()
        functions.pop()
        first.name = "h"
        first.params.append(("t", RW))
        second.params[0] = ("a", RWRW)
        second.body[0][2].clear()
        second.body.append(put("zz", 0, NULL))
        extra.clear()
        self.done(machine, ("call", "f", [number(3)]), let("x", ("r",), number(1)), let("p", RWRW, address("x")))
        extra.append((("-",), ("rw",)))
        self.done(machine, let("n", ("-",), number(1)))
        self.refused(machine, let("q", RWRW, address("n")), "no conversion")
        self.assertEqual(machine.things()[:2], [("a", RW, 3), ("s", ("r",), 3)])

    def test_sources_of_a_call(self):
        functions = [Function("f", [("a", RW)], [])]
        machine = Machine(functions, [])
        sources = [number(3)]
        self.done(machine, ("call", "f", sources))
        sources.append(None)
        sources[0] = NULL
        self.done(machine, let("x", RW, number(1)))
        machine.undo()
        machine.undo()
        self.done(machine, ("call", "f", [number(4)]))
        self.assertEqual(machine.things(), [("a", RW, 4)])

    def test_arguments_stay(self):
        functions = [Function("f", [("a", RW)], [put("a", 0, number(1))])]
        extra = [(("r",), ("rw",))]
        sources = [number(3)]
        statement = ("call", "f", sources)
        before = copy.deepcopy((functions[0].__dict__, extra, statement))
        machine = Machine(functions, extra)
        self.done(machine, statement, let("x", ("r",), number(1)), let("p", RWRW, address("x")))
        machine.undo()
        self.assertEqual((functions[0].__dict__, extra, statement), before)
        self.assertEqual(len(functions), 1)

    def test_what_is_returned_belongs_to_the_caller(self):
        machine = Machine([], [(("-",), ("rw",))])
        self.done(machine, let("x", ("-",), number(1)), let("p", RWRW, address("x")), put("p", 1, number(2)))
        kept = copy.deepcopy(state(machine))
        early = state(machine)
        for _ in range(2):
            machine.breaches().clear()
            machine.things().clear()
            machine.breaches().append(("r", 0))
            machine.things()[0] = None
            self.assertEqual(state(machine), kept)
        self.done(machine, put("p", 1, number(3)), let("y", RW, number(1)))
        machine.undo()
        machine.undo()
        machine.undo()
        self.assertEqual(early, kept)

    def test_machines_of_the_same_functions(self):
        functions = [Function("f", [("a", RW)], [])]
        one, two = Machine(functions, []), Machine(functions, [])
        self.done(one, let("x", RW, number(1)), ("call", "f", [value("x")]))
        self.assertEqual(state(two), ([], []))
        self.done(two, let("x", RWRW, NULL))
        self.assertEqual(one.type_of("x"), RW)


class DrawnTest(MachineCase):
    def told(self, functions, statements, extra):
        try:
            return run(Program(functions, statements), extra)
        except RightsError as error:
            return error.reason

    def one(self, seed, seen):
        """Statements that may have faults, stop or go on for long; undo in between: always like run."""
        rng = random.Random(seed)
        extra = [rng.choice(BARRED) for _ in range(rng.randint(0, 2))]
        drawer = Drawer(rng, extra)
        functions = drawer.functions()
        machine = Machine(functions, extra)
        statements = []
        for _ in range(30):
            if rng.random() < 0.2:
                self.assertIs(machine.undo(), bool(statements))
                statements = statements[:-1]
            else:
                known = dict(statement[1:3] for statement in statements if statement[0] == "let")
                drawer.fitting = rng.random() < 0.9
                statement = drawer.statement(known, functions)
                if statement is None:
                    continue
                told = self.told(functions, statements + [statement], extra)
                try:
                    ended = machine.do(statement)
                except RightsError as error:
                    ended = error.reason
                if told == "not let by":
                    found = faults(Program(functions, statements + [statement]), extra)
                    self.assertEqual(found, [("", len(statements), ended)], seed)
                else:
                    self.assertEqual(ended, told if told == "too long" else told[0], seed)
                seen[ended] = seen.get(ended, 0) + 1
                if ended == "done":
                    statements.append(statement)
            self.like_run(machine, functions, statements, extra)
            seen["breach"] = seen.get("breach", 0) + bool(machine.breaches())

    def test_like_run(self):
        seen = {}
        for seed in range(400):
            self.one(seed, seen)
        for word in ("done", "stopped", "unknown name", "too many stars", "may not read", "may not write",
                     "other depth", "breach"):
            self.assertGreater(seen.get(word, 0), 20, word)
