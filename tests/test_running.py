import copy
import random
import unittest

from rightskept.errors import RightsError, TextError
from rightskept.judging import faults, is_let_by
from rightskept.programs import Function, Program
from rightskept.running import run
from drawing import Drawer
from model import Model, goes, model_run
from tables import value_types

NULL = ("null",)
RW = ("rw",)
RWRW = ("rw", "rw")
DEEP = ("rw", "rw", "rw")


def number(n):
    return ("number", n)


def value(name, stars=0):
    return ("value", (name, stars))


def address(name, stars=0):
    return ("address", (name, stars))


def let(name, kind, source):
    return ("let", name, kind, source)


def put(name, stars, source):
    return ("put", (name, stars), source)


def calls(many):
    """Functions and statements that execute exactly so many statements: calls of calls, and puts behind them."""
    body = [put("a", 0, number(1))]
    functions = [Function("f", [("a", RW)], body * 12),
                 Function("g", [("b", RW)], [("call", "f", [value("b")])] * 12)]
    statements = [let("x", RW, number(0)), let("p", RWRW, NULL)]
    left = many - 2
    for name, cost in (("g", 1 + 12 * 13), ("f", 13)):
        statements += [("call", name, [value("x")])] * (left // cost)
        left %= cost
    return functions, statements + [put("x", 0, number(2))] * left


class RunningCase(unittest.TestCase):
    def ran(self, functions, statements, extra=()):
        return run(Program(functions, statements), list(extra))

    def done(self, statements, things, functions=(), extra=(), breaches=()):
        self.assertEqual(self.ran(list(functions), statements, extra), ("done", list(breaches), things))

    def stopped(self, statements, things, functions=(), extra=(), breaches=()):
        self.assertEqual(self.ran(list(functions), statements, extra), ("stopped", list(breaches), things))

    def refused(self, functions, statements, reason, extra=()):
        with self.assertRaises(RightsError) as caught:
            self.ran(functions, statements, extra)
        self.assertEqual(caught.exception.reason, reason)
        self.assertNotIsInstance(caught.exception, TextError)


class StatementsTest(RunningCase):
    def test_nothing(self):
        self.done([], [])
        self.done([], [], [Function("f", [("x", RW)], [put("x", 0, number(1))])])

    def test_kinds_of_what_is_returned(self):
        ended = self.ran([], [let("x", RW, number(1))])
        self.assertIs(type(ended), tuple)
        self.assertEqual([type(part) for part in ended], [str, list, list])
        self.assertIs(type(ended[2][0]), tuple)

    def test_numbers(self):
        self.done([let("x", RW, number(0)), let("y", ("-",), number(1000)), let("z", ("r",), value("x"))],
                  [("x", RW, 0), ("y", ("-",), 1000), ("z", ("r",), 0)])

    def test_null(self):
        self.done([let("x", RWRW, NULL), let("y", DEEP, NULL), let("z", ("r", "-"), value("x"))],
                  [("x", RWRW, None), ("y", DEEP, None), ("z", ("r", "-"), None)])

    def test_addresses_of_variables(self):
        self.done([let("y", RW, number(3)), let("x", RW, number(4)), let("p", RWRW, address("x")),
                   let("q", ("r", "r", "-"), address("p"))],
                  [("y", RW, 3), ("x", RW, 4), ("p", RWRW, ("thing", 1)), ("q", ("r", "r", "-"), ("thing", 2))])

    def test_addresses_behind_stars(self):
        self.done([let("x", RW, number(4)), let("p", RWRW, address("x")), let("q", DEEP, address("p")),
                   let("a", RWRW, address("q", 2)), let("b", DEEP, address("q", 1)), let("c", RWRW, address("p", 1))],
                  [("x", RW, 4), ("p", RWRW, ("thing", 0)), ("q", DEEP, ("thing", 1)), ("a", RWRW, ("thing", 0)),
                   ("b", DEEP, ("thing", 1)), ("c", RWRW, ("thing", 0))])

    def test_values_behind_stars(self):
        self.done([let("x", RW, number(4)), let("p", RWRW, address("x")), let("q", DEEP, address("p")),
                   let("a", RW, value("q", 2)), let("b", RWRW, value("q", 1)), let("c", DEEP, value("q"))],
                  [("x", RW, 4), ("p", RWRW, ("thing", 0)), ("q", DEEP, ("thing", 1)), ("a", RW, 4),
                   ("b", RWRW, ("thing", 0)), ("c", DEEP, ("thing", 1))])

    def test_null_is_a_value_as_well(self):
        self.done([let("p", RWRW, NULL), let("q", DEEP, address("p")), let("a", RWRW, value("q", 1)),
                   let("x", RW, number(1)), put("q", 1, address("x")), put("a", 0, value("p")), put("p", 0, NULL)],
                  [("p", RWRW, None), ("q", DEEP, ("thing", 0)), ("a", RWRW, ("thing", 3)), ("x", RW, 1)])

    def test_puts(self):
        self.done([let("x", RW, number(4)), let("y", RW, number(5)), put("x", 0, number(6)),
                   put("y", 0, value("x")), put("x", 0, number(0))],
                  [("x", RW, 0), ("y", RW, 6)])

    def test_put_through_one_star(self):
        self.done([let("x", RW, number(4)), let("y", RW, number(5)), let("p", RWRW, address("x")),
                   put("p", 1, number(6)), put("p", 0, address("y")), put("p", 1, number(7))],
                  [("x", RW, 6), ("y", RW, 7), ("p", RWRW, ("thing", 1))])

    def test_put_through_two_stars(self):
        self.done([let("x", RW, number(4)), let("y", RW, number(5)), let("p", RWRW, address("x")),
                   let("q", DEEP, address("p")), put("q", 2, number(6)), put("q", 1, address("y")),
                   put("q", 2, number(7))],
                  [("x", RW, 6), ("y", RW, 7), ("p", RWRW, ("thing", 1)), ("q", DEEP, ("thing", 2))])

    def test_five_stars(self):
        names = ["a", "b", "c", "d", "e", "f"]
        lets = [let("a", RW, number(1))]
        lets += [let(name, ("rw",) * (at + 2), address(names[at])) for at, name in enumerate(names[1:])]
        things = [("a", RW, 9)] + [(name, ("rw",) * (at + 2), ("thing", at)) for at, name in enumerate(names[1:])]
        self.done(lets + [put("f", 5, number(9)), let("g", RW, value("f", 5))], things + [("g", RW, 9)])

    def test_a_put_of_its_own_place(self):
        self.done([let("x", RW, number(4)), let("p", RWRW, address("x")), let("y", RW, number(5)),
                   put("p", 0, value("p")), put("p", 1, value("p", 1))],
                  [("x", RW, 4), ("p", RWRW, ("thing", 0)), ("y", RW, 5)])

    def test_a_copied_address_leads_to_the_same_thing(self):
        self.done([let("x", RW, number(4)), let("p", RWRW, address("x")), let("q", ("r", "r"), value("p")),
                   put("p", 1, number(8)), let("y", RW, value("q", 1))],
                  [("x", RW, 8), ("p", RWRW, ("thing", 0)), ("q", ("r", "r"), ("thing", 0)), ("y", RW, 8)])

    def test_the_declared_type_is_told(self):
        kind = ("rw", "-", "w", "r", "r", "rw")
        self.done([let("x", kind, NULL)], [("x", kind, None)])


class CallsTest(RunningCase):
    def test_parameters_and_variables(self):
        function = Function("f", [("a", ("r",)), ("b", ("rw", "r"))], [let("c", RW, value("a")), put("b", 0, NULL)])
        self.done([let("x", RW, number(4)), ("call", "f", [value("x"), address("x")]), let("y", RW, number(1))],
                  [("x", RW, 4), ("a", ("r",), 4), ("b", ("rw", "r"), None), ("c", RW, 4), ("y", RW, 1)], [function])

    def test_each_call_makes_them_anew(self):
        function = Function("f", [("a", RW)], [let("c", RW, value("a")), let("p", RWRW, address("c")),
                                              put("a", 0, number(9)), put("p", 1, number(8))])
        self.done([("call", "f", [number(1)]), ("call", "f", [number(2)])],
                  [("a", RW, 9), ("c", RW, 8), ("p", RWRW, ("thing", 1)),
                   ("a", RW, 9), ("c", RW, 8), ("p", RWRW, ("thing", 4))], [function])

    def test_addresses_of_the_callers_things(self):
        function = Function("f", [("a", RWRW), ("b", RWRW)], [put("a", 1, value("b", 1)), put("b", 1, number(7))])
        self.done([let("x", RW, number(4)), let("y", RW, number(5)), ("call", "f", [address("x"), address("y")])],
                  [("x", RW, 5), ("y", RW, 7), ("a", RWRW, ("thing", 0)), ("b", RWRW, ("thing", 1))], [function])

    def test_an_address_that_outlives_the_call(self):
        function = Function("f", [("a", DEEP)], [let("c", RW, number(3)), put("a", 1, address("c"))])
        self.done([let("p", RWRW, NULL), ("call", "f", [address("p")]), put("p", 1, number(6))],
                  [("p", RWRW, ("thing", 2)), ("a", DEEP, ("thing", 0)), ("c", RW, 6)], [function])

    def test_a_call_within_a_body_that_a_call_executes(self):
        functions = [Function("f", [("a", RWRW)], [put("a", 1, number(7)), let("b", RW, value("a", 1))]),
                     Function("g", [("c", RW)], [let("d", RW, value("c")), ("call", "f", [address("d")]),
                                                ("call", "f", [address("c")]), put("d", 0, number(1))]),
                     Function("h", [], [("call", "g", [number(2)])])]
        self.done([("call", "h", []), let("x", RW, number(0))],
                  [("c", RW, 7), ("d", RW, 1), ("a", RWRW, ("thing", 1)), ("b", RW, 7), ("a", RWRW, ("thing", 0)),
                   ("b", RW, 7), ("x", RW, 0)], functions)

    def test_the_caller_goes_on_with_its_own_variables(self):
        functions = [Function("f", [("a", RW)], [let("b", RW, value("a")), put("a", 0, number(0))]),
                     Function("g", [("c", RW)], [("call", "f", [value("c")]), let("d", RW, value("c")),
                                                ("call", "f", [value("d")]), put("c", 0, value("d"))])]
        self.done([let("x", RW, number(5)), ("call", "g", [value("x")]), put("x", 0, value("x"))],
                  [("x", RW, 5), ("c", RW, 5), ("a", RW, 0), ("b", RW, 5), ("d", RW, 5), ("a", RW, 0), ("b", RW, 5)],
                  functions)

    def test_order_of_parameters(self):
        kinds = [("r",), ("w",), ("-",), ("rw",)]
        function = Function("f", list(zip(["d", "b", "c", "a"], kinds)), [])
        self.done([("call", "f", [number(4), number(3), number(2), number(1)])],
                  [("d", ("r",), 4), ("b", ("w",), 3), ("c", ("-",), 2), ("a", ("rw",), 1)], [function])

    def test_sources_are_looked_up_ahead_of_the_parameters(self):
        """All sources see the things as they are ahead of the call, and a later one that stops leaves no parameter."""
        function = Function("f", [("a", ("rw",)), ("b", RWRW), ("c", RW)], [put("b", 1, number(9))])
        lets = [let("x", RW, number(4)), let("p", RWRW, address("x"))]
        self.done(lets + [("call", "f", [value("p", 1), value("p"), value("x")])],
                  [("x", RW, 9), ("p", RWRW, ("thing", 0)), ("a", RW, 4), ("b", RWRW, ("thing", 0)), ("c", RW, 4)],
                  [function])
        self.stopped(lets + [put("p", 0, NULL), ("call", "f", [value("x"), address("x"), value("p", 1)])],
                     [("x", RW, 4), ("p", RWRW, None)], [function])

    def test_sources_that_read_what_the_body_changes(self):
        """The second call gives what the first one left, and its own parameters change nothing that it looks up."""
        function = Function("f", [("a", RW), ("b", RWRW), ("c", RW)], [put("b", 1, number(8)), put("a", 0, number(1))])
        functions = [function, Function("g", [("d", RW), ("e", RWRW)], [
            ("call", "f", [value("d"), address("d"), value("d")]),
            ("call", "f", [value("d"), value("e"), value("e", 1)])])]
        self.done([let("x", RW, number(4)), ("call", "g", [number(3), address("x")])],
                  [("x", RW, 8), ("d", RW, 8), ("e", RWRW, ("thing", 0)),
                   ("a", RW, 1), ("b", RWRW, ("thing", 1)), ("c", RW, 3),
                   ("a", RW, 1), ("b", RWRW, ("thing", 0)), ("c", RW, 4)], functions)


class StoppingTest(RunningCase):
    """Null is followed at the first and at the second star."""
    first = [let("x", RW, number(4)), let("p", RWRW, NULL)]
    first_things = [("x", RW, 4), ("p", RWRW, None)]
    second = first + [let("q", DEEP, address("p"))]
    second_things = first_things + [("q", DEEP, ("thing", 1))]
    more = [put("x", 0, number(5)), let("y", RW, number(6))]

    def both(self, statement_for, functions=()):
        """Stops at the statement made for each of the two places; nothing is done behind it."""
        self.stopped(self.first + [statement_for(("p", 1))] + self.more, self.first_things, functions)
        self.stopped(self.second + [statement_for(("q", 2))] + self.more, self.second_things, functions)

    def test_in_values(self):
        self.both(lambda place: let("z", RW, ("value", place)))
        self.both(lambda place: put("x", 0, ("value", place)))

    def test_in_addresses(self):
        self.both(lambda place: let("z", RWRW, ("address", place)))
        self.both(lambda place: put("p", 0, ("address", place)))

    def test_in_places_of_puts(self):
        self.both(lambda place: ("put", place, number(7)))
        self.both(lambda place: ("put", place, value("x")))

    def test_in_sources_of_calls(self):
        one = Function("f", [("a", RW)], [])
        two = Function("f", [("b", ("r",)), ("a", RW)], [])
        self.both(lambda place: ("call", "f", [("value", place)]), [one])
        self.both(lambda place: ("call", "f", [number(1), ("value", place)]), [two])
        self.both(lambda place: ("call", "f", [("value", place), value("x")]), [two])

    def test_the_first_star_of_several(self):
        for source in (value("d", 1), value("d", 2), address("d", 1), address("d", 2), address("d", 3)):
            kind = ("rw",) * (4 - source[1][1] + (source[0] == "address"))
            self.stopped([let("d", ("rw",) * 4, NULL), let("e", kind, source)], [("d", ("rw",) * 4, None)])

    def test_not_without_a_star(self):
        self.done([let("p", RWRW, NULL), let("q", RWRW, value("p")), let("a", DEEP, address("p")),
                   put("p", 0, NULL), let("b", DEEP, address("a", 1)), let("c", RWRW, value("a", 1))],
                  [("p", RWRW, None), ("q", RWRW, None), ("a", DEEP, ("thing", 0)), ("b", DEEP, ("thing", 0)),
                   ("c", RWRW, None)])

    def test_within_a_body(self):
        function = Function("f", [("a", RWRW)], [let("b", RW, number(1)), put("a", 1, number(9)),
                                                put("b", 0, number(2))])
        outer = Function("g", [("c", RWRW)], [let("d", RW, number(3)), ("call", "f", [value("c")]),
                                             put("d", 0, number(4))])
        self.stopped([let("x", RW, number(4)), ("call", "f", [address("x")]), ("call", "f", [NULL])] + self.more,
                     [("x", RW, 9), ("a", RWRW, ("thing", 0)), ("b", RW, 2), ("a", RWRW, None), ("b", RW, 1)],
                     [function])
        self.stopped([let("x", RW, number(4)), ("call", "g", [NULL])] + self.more,
                     [("x", RW, 4), ("c", RWRW, None), ("d", RW, 3), ("a", RWRW, None), ("b", RW, 1)],
                     [function, outer])

    def test_the_place_of_a_put_is_found_first(self):
        """Both have null to be followed: what is read of the place's side is a breach, that of the source's is not."""
        extra = [(("w", "rw"), ("rw", "rw"))]
        lets = [let("a", ("w", "rw"), NULL), let("b", ("w", "rw"), NULL), let("p", DEEP, address("a")),
                let("q", DEEP, address("b"))]
        things = [("a", ("w", "rw"), None), ("b", ("w", "rw"), None), ("p", DEEP, ("thing", 0)),
                  ("q", DEEP, ("thing", 1))]
        self.stopped(lets + [put("p", 2, value("q", 2))], things, (), extra, [("r", 0)])
        self.stopped(lets + [put("q", 2, value("p", 2))], things, (), extra, [("r", 1)])


class BreachesTest(RunningCase):
    def test_of_reading(self):
        extra = [(("-",), ("r",))]
        self.done([let("x", ("-",), number(4)), let("p", ("rw", "r"), address("x")), let("y", RW, value("p", 1)),
                   put("y", 0, value("p", 1))],
                  [("x", ("-",), 4), ("p", ("rw", "r"), ("thing", 0)), ("y", RW, 4)], (), extra, [("r", 0)] * 2)

    def test_of_writing(self):
        extra = [(("r",), ("w",))]
        self.done([let("y", RW, number(1)), let("x", ("r",), number(4)), let("p", ("r", "w"), address("x")),
                   put("p", 1, number(5)), put("p", 1, number(6))],
                  [("y", RW, 1), ("x", ("r",), 6), ("p", ("r", "w"), ("thing", 1))], (), extra, [("w", 1)] * 2)

    def test_of_following(self):
        extra = [(("w", "rw"), ("rw", "rw"))]
        self.done([let("x", RW, number(1)), let("a", ("w", "rw"), address("x")), let("p", DEEP, address("a")),
                   let("y", RW, value("p", 2)), put("p", 2, number(8)), let("b", RWRW, address("p", 2)),
                   let("c", RWRW, value("p", 1)), let("d", DEEP, address("p", 1)), put("p", 1, NULL)],
                  [("x", RW, 8), ("a", ("w", "rw"), None), ("p", DEEP, ("thing", 1)), ("y", RW, 1),
                   ("b", RWRW, ("thing", 0)), ("c", RWRW, ("thing", 0)), ("d", DEEP, ("thing", 1))],
                  (), extra, [("r", 1)] * 4)

    def test_first_values_and_addresses_are_none(self):
        self.done([let("x", ("r",), number(1)), let("y", ("-",), number(2)), let("p", ("-", "-"), address("y")),
                   let("q", ("-", "r"), address("x")), let("s", ("-", "-", "-"), address("p"))],
                  [("x", ("r",), 1), ("y", ("-",), 2), ("p", ("-", "-"), ("thing", 1)), ("q", ("-", "r"), ("thing", 0)),
                   ("s", ("-", "-", "-"), ("thing", 2))])
        function = Function("f", [("a", ("-",)), ("b", ("-", "-"))], [])
        self.done([("call", "f", [number(1), NULL])], [("a", ("-",), 1), ("b", ("-", "-"), None)], [function])

    def test_the_declared_type_counts_not_the_one_seen(self):
        """A thing that may be written is seen with "r" and then, by the extra conversion, with "rw": no breach."""
        extra = [(("r",), ("rw",))]
        self.done([let("x", RW, number(1)), let("p", ("rw", "r"), address("x")), let("q", RWRW, value("p")),
                   put("q", 1, number(2))],
                  [("x", RW, 2), ("p", ("rw", "r"), ("thing", 0)), ("q", RWRW, ("thing", 0))], (), extra)

    def test_only_the_first_right_of_the_thing_counts(self):
        extra = [(("rw", "-"), ("rw", "r"))]
        self.done([let("n", RW, number(1)), let("x", ("rw", "-"), address("n")),
                   let("p", ("r", "rw", "r"), address("x")), let("y", RW, value("p", 2))],
                  [("n", RW, 1), ("x", ("rw", "-"), ("thing", 0)), ("p", ("r", "rw", "r"), ("thing", 1)),
                   ("y", RW, 1)], (), extra)

    def test_both_in_one_put(self):
        """The way to the place, then the source, then the writing."""
        extra = [(("-",), ("rw",)), (("-", "rw"), ("rw", "rw"))]
        lets = [let("x", ("-",), number(1)), let("y", ("-",), number(2)), let("p", RWRW, address("x")),
                let("q", RWRW, address("y")), let("a", ("-", "rw"), address("x")), let("s", DEEP, address("a"))]
        things = [("x", ("-",), 2), ("y", ("-",), 2), ("p", RWRW, ("thing", 0)), ("q", RWRW, ("thing", 1)),
                  ("a", ("-", "rw"), ("thing", 0)), ("s", DEEP, ("thing", 4))]
        self.done(lets + [put("p", 1, value("q", 1))], things, (), extra, [("r", 1), ("w", 0)])
        self.done(lets + [put("s", 2, value("q", 1))], things, (), extra, [("r", 4), ("r", 1), ("w", 0)])

    def test_in_a_call(self):
        """Those of the sources in their order, and then those of the body; parameters have their types as well."""
        extra = [(("-",), ("rw",)), (("w",), ("r",))]
        function = Function("f", [("a", ("-",)), ("b", ("r",)), ("c", ("r", "rw"))], [
            put("c", 1, value("b")), let("d", ("r", "rw"), address("a")), put("d", 1, number(7)),
            let("e", ("w",), value("d", 1))])
        lets = [let("x", ("-",), number(1)), let("y", ("w",), number(2)), let("p", ("r", "rw"), address("x")),
                let("q", ("r", "r"), address("y"))]
        self.done(lets + [("call", "f", [value("q", 1), value("p", 1), value("p")])],
                  [("x", ("-",), 1), ("y", ("w",), 2), ("p", ("r", "rw"), ("thing", 0)),
                   ("q", ("r", "r"), ("thing", 1)), ("a", ("-",), 7), ("b", ("r",), 1),
                   ("c", ("r", "rw"), ("thing", 0)),
                   ("d", ("r", "rw"), ("thing", 4)), ("e", ("w",), 7)],
                  [function], extra, [("r", 1), ("r", 0), ("w", 0), ("w", 4), ("r", 4)])

    def test_one_at_which_the_run_stops(self):
        extra = [(("-", "rw"), ("rw", "rw"))]
        lets = [let("a", ("-", "rw"), NULL), let("p", DEEP, address("a"))]
        things = [("a", ("-", "rw"), None), ("p", DEEP, ("thing", 0))]
        function = Function("f", [("b", RW), ("c", RW)], [])
        for statement in (let("x", RW, value("p", 2)), let("x", RWRW, address("p", 2)), put("p", 2, number(1)),
                          put("p", 1, address("p", 2)), ("call", "f", [number(1), value("p", 2)])):
            self.stopped(lets + [statement, put("p", 1, NULL)], things, [function], extra, [("r", 0)])

    def test_a_put_that_stops_at_its_source_writes_nothing(self):
        extra = [(("-", "rw"), ("rw", "rw")), (("r",), ("w",))]
        lets = [let("a", ("-", "rw"), NULL), let("p", DEEP, address("a")), let("x", ("r",), number(1)),
                let("q", ("r", "w"), address("x"))]
        self.stopped(lets + [put("q", 1, value("p", 2))],
                     [("a", ("-", "rw"), None), ("p", DEEP, ("thing", 0)), ("x", ("r",), 1),
                      ("q", ("r", "w"), ("thing", 2))], (), extra, [("r", 0)])

    def test_point_24(self):
        self.done([let("n", ("r",), number(5)), let("c", RWRW, NULL), let("p", DEEP, address("c")),
                   let("q", ("rw", "rw", "r"), value("p")), put("q", 1, address("n")), put("c", 1, number(7))],
                  [("n", ("r",), 7), ("c", RWRW, ("thing", 0)), ("p", DEEP, ("thing", 1)),
                   ("q", ("rw", "rw", "r"), ("thing", 1))], (), [(RWRW, ("rw", "r"))], [("w", 0)])


class RefusedTest(RunningCase):
    def test_calls_executes_so_many(self):
        for many in (2, 15, 160, 997, 998, 999, 1000, 1001, 3000):
            model = Model(Program(*calls(many)))
            model.run()
            self.assertEqual(model.many, many)

    def test_not_let_by(self):
        self.refused([], [put("x", 0, number(1))], "not let by")
        self.refused([Function("f", [], [put("x", 0, number(1))])], [], "not let by")
        self.refused([], [let("x", ("r",), number(1)), let("p", RWRW, address("x"))], "not let by")
        self.refused([], [let("x", ("r",), number(1)), let("p", RWRW, address("x"))], "not let by",
                     [(("rw",), ("r",))])
        self.done([let("x", ("r",), number(1)), let("p", RWRW, address("x"))],
                  [("x", ("r",), 1), ("p", RWRW, ("thing", 0))], (), [(("r",), ("rw",))])

    def test_not_let_by_behind_where_it_stops(self):
        self.refused([], [let("p", RWRW, NULL), put("p", 1, number(1)), put("x", 0, number(1))], "not let by")

    def test_exactly_1000_statements(self):
        for many in (999, 1000):
            functions, statements = calls(many)
            ended, breaches, things = self.ran(functions, statements)
            self.assertEqual((ended, breaches), ("done", []))
            self.assertEqual(things[:3], [("x", RW, 2), ("p", RWRW, None), ("b", RW, 0)])

    def test_1001_statements(self):
        for many in (1001, 1002, 1156, 2000):
            self.refused(*calls(many), "too long")

    def test_1000_and_1001_within_a_body(self):
        """The last statement is one of a body that is called last."""
        functions, statements = calls(1000 - 3)
        outer = Function("h", [], [("call", "k", [])])
        one = Function("k", [], [let("y", RW, number(1))])
        two = Function("k", [], [let("y", RW, number(1)), let("z", RW, number(2))])
        statements.append(("call", "h", []))
        self.assertEqual(self.ran(functions + [one, outer], statements)[2][-1], ("y", RW, 1))
        self.refused(functions + [two, outer], statements, "too long")

    def test_a_call_is_one_itself(self):
        none = [Function("h", [], [])]
        functions, statements = calls(999)
        self.assertEqual(self.ran(functions + none, statements + [("call", "h", [])])[0], "done")
        functions, statements = calls(1000)
        self.refused(functions + none, statements + [("call", "h", [])], "too long")

    def test_stopping_at_the_1000th_and_the_1001st(self):
        stop = put("p", 1, number(1))
        functions, statements = calls(999)
        ended, breaches, things = self.ran(functions, statements + [stop])
        self.assertEqual((ended, breaches, things[0]), ("stopped", [], ("x", RW, 2)))
        functions, statements = calls(1000)
        self.refused(functions, statements + [stop], "too long")

    def test_stopping_within_a_body_at_the_1000th_and_the_1001st(self):
        last = [Function("h", [("c", RWRW)], [put("c", 1, number(1)), put("c", 1, number(1))])]
        functions, statements = calls(998)
        ended, _, things = self.ran(functions + last, statements + [("call", "h", [NULL])])
        self.assertEqual((ended, things[-1]), ("stopped", ("c", RWRW, None)))
        functions, statements = calls(999)
        self.refused(functions + last, statements + [("call", "h", [NULL])], "too long")

    def test_what_stops_earlier_is_not_too_long(self):
        functions, statements = calls(3000)
        self.refused(functions, statements, "too long")
        self.assertEqual(self.ran(functions, statements[:2] + [put("p", 1, number(1))] + statements[2:])[0],
                         "stopped")

    def test_not_let_by_comes_first(self):
        functions, statements = calls(1500)
        self.refused(functions, statements, "too long")
        self.refused(functions, statements + [put("x", 1, number(1))], "not let by")
        self.refused(functions + [Function("h", [], [put("x", 0, number(1))])], statements, "not let by")

    def test_the_longest(self):
        functions = [Function("a", [], [])]
        for name, called in (("b", "a"), ("c", "b"), ("d", "c")):
            functions.append(Function(name, [], [("call", called, [])] * 12))
        self.refused(functions, [("call", "d", [])] * 40, "too long")


class ArgumentsTest(RunningCase):
    def setUp(self):
        self.extra = [(("r",), ("rw",))]
        self.program = Program([Function("f", [("a", RWRW)], [put("a", 1, number(6))])],
                               [let("x", ("r",), number(1)), ("call", "f", [address("x")])])

    def test_they_stay(self):
        before = copy.deepcopy((self.program.functions[0].__dict__, self.program.statements, self.extra))
        first = run(self.program, self.extra)
        self.assertEqual(first, ("done", [("w", 0)], [("x", ("r",), 6), ("a", RWRW, ("thing", 0))]))
        self.assertEqual((self.program.functions[0].__dict__, self.program.statements, self.extra), before)
        self.assertEqual(run(self.program, self.extra), first)

    def test_what_is_returned_belongs_to_the_caller(self):
        first = run(self.program, self.extra)
        kept = copy.deepcopy(first)
        second = run(self.program, self.extra)
        second[1].clear()
        second[2].clear()
        self.assertEqual(first, kept)
        self.assertEqual(run(self.program, self.extra), kept)


BARRED = {length: [(one, two) for one in value_types(length) for two in value_types(length) if not goes(one, two)]
          for length in (1, 2)}


class DrawnTest(unittest.TestCase):
    def told(self, program, extra):
        try:
            return run(program, extra)
        except RightsError as error:
            return error.reason

    def test_no_breach_without_extra_conversions(self):
        ended = {"done": 0, "stopped": 0}
        long_ones = 0
        for seed in range(2500):
            program = Drawer(random.Random(seed), []).program()
            self.assertEqual(faults(program, []), [])
            told = self.told(program, [])
            if told == "too long":
                continue
            self.assertEqual(told[1], [], seed)
            ended[told[0]] += 1
            long_ones += len(told[2]) > 10
        self.assertGreater(ended["done"], 500)
        self.assertGreater(ended["stopped"], 200)
        self.assertGreater(long_ones, 200)

    def test_no_breach_with_extra_conversions_that_convert(self):
        """Those of point 5 are harmless, even if they are told as extra ones."""
        for seed in range(500):
            rng = random.Random(seed)
            pairs = [pair for pair in ((one, two) for one in value_types(2) for two in value_types(2)) if goes(*pair)]
            extra = [rng.choice(pairs) for _ in range(3)]
            told = self.told(Drawer(rng, extra).program(), extra)
            if told != "too long":
                self.assertEqual(told[1], [], seed)

    def test_like_the_model(self):
        """With extra conversions that bar: the draws have to bring breaches, or the tests above tell nothing."""
        letters = {"r": 0, "w": 0}
        for seed in range(3000):
            rng = random.Random(seed)
            extra = [rng.choice(BARRED[rng.randint(1, 2)]) for _ in range(rng.randint(1, 2))]
            program = Drawer(rng, extra).program()
            self.assertIs(is_let_by(program, extra), True)
            told = self.told(program, extra)
            self.assertEqual(told, model_run(program), seed)
            for letter in {letter for letter, _ in told[1]} if told != "too long" else ():
                letters[letter] += 1
        self.assertGreater(letters["r"], 20)
        self.assertGreater(letters["w"], 10)
