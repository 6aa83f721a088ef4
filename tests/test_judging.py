import copy
import random
import unittest

from rightskept.judging import faults, is_let_by
from rightskept.programs import Function, Program
from rightskept.types import are_alike
from drawing import Drawer
from model import model_faults
from tables import goes, value_types

NUMBER = ("number", 7)
NULL = ("null",)

# The variables that the statements of the tests have, by their types.
VARIABLES = {
    "n": ("rw",), "look": ("r",), "give": ("w",), "shut": ("-",),
    "p": ("rw", "rw"), "plook": ("rw", "r"), "pgive": ("rw", "w"), "pshut": ("rw", "-"),
    "lookp": ("r", "rw"), "givep": ("w", "rw"), "shutp": ("-", "rw"),
    "q": ("rw", "rw", "rw"), "qlook": ("rw", "rw", "r"), "qa": ("rw", "r", "rw"), "qb": ("rw", "w", "rw"),
    "qc": ("w", "rw", "rw"), "qd": ("r", "-", "rw"), "qe": ("rw", "r", "-"),
    "deep": ("rw",) * 6,
}


def first_source(kind):
    return NUMBER if len(kind) == 1 else NULL


def names_in(thing):
    """The names of variables that stand in a statement."""
    if isinstance(thing, (tuple, list)):
        return [name for part in thing for name in names_in(part)]
    return [thing] if isinstance(thing, str) and thing in VARIABLES else []


def value(name, stars=0):
    return ("value", (name, stars))


def address(name, stars=0):
    return ("address", (name, stars))


class JudgingCase(unittest.TestCase):
    def told(self, functions, statements, extra=()):
        """What faults tells; is_let_by has to agree."""
        program = Program(functions, statements)
        found = faults(program, list(extra))
        self.assertIs(type(found), list)
        self.assertIs(is_let_by(program, list(extra)), found == [])
        return found

    def reason(self, statement, extra=(), functions=()):
        """The reason told of a statement whose variables are made ahead of it, "" if it is let by.

        It is judged among a program's statements, in a body that makes the
        variables, and in one that has them as parameters.
        """
        functions = list(functions)
        pairs = [(name, VARIABLES[name]) for name in dict.fromkeys(names_in(statement))]
        lets = [("let", name, kind, first_source(kind)) for name, kind in pairs]
        settings = [
            (functions, lets + [statement], ("", len(lets))),
            (functions + [Function("body", [], lets + [statement])], [], ("body", len(lets))),
            (functions + [Function("body", pairs, [statement])], [], ("body", 0)),
        ]
        reasons = []
        for made, statements, at in settings:
            found = self.told(made, statements, extra)
            if found:
                self.assertEqual(found[0][:2], at)
            reasons.append(found[0][2] if found else "")
        self.assertEqual(len(set(reasons)), 1, reasons)
        return reasons[0]

    def source_reason(self, source, goal, extra=()):
        """The reason told of a source for a value type, the same in each kind of statement and place there."""
        fits = NUMBER if goal == () else NULL
        first = Function("one", [("a", ("-",) + goal)], [])
        second = Function("two", [("b", ("-",)), ("c", ("r",) + goal)], [])
        third = Function("three", [("d", ("w",) + goal), ("e", ("rw",)), ("g", ("rw",) + goal)], [])
        holder = Function("hold", [("to", ("w",) + goal)], [])
        statements = [
            ([], ("let", "x", ("-",) + goal, source)),
            ([], ("let", "x", ("rw",) + goal, source)),
            ([first], ("call", "one", [source])),
            ([second], ("call", "two", [NUMBER, source])),
            ([third], ("call", "three", [source, NUMBER, fits])),
            ([third], ("call", "three", [fits, NUMBER, source])),
        ]
        reasons = [self.reason(statement, extra, functions) for functions, statement in statements]
        name = [name for name, kind in VARIABLES.items() if kind[1:] == goal and "w" in kind[0]][:1]
        if name:
            reasons.append(self.reason(("put", (name[0], 0), source), extra, [holder]))
        self.assertEqual(len(set(reasons)), 1, reasons)
        return reasons[0]


class PlacesTest(JudgingCase):
    def place_reasons(self, place):
        """Of a place in a put, of one whose value is taken, of one whose address is taken, for numbers."""
        return [self.reason(("put", place, NUMBER)), self.source_reason(("value", place), ()),
                self.source_reason(("address", place), ())]

    def test_unknown_name(self):
        for stars in range(6):
            self.assertEqual(self.place_reasons(("zz", stars)), ["unknown name"] * 3)

    def test_too_many_stars(self):
        for depth in range(5):
            for first in ("rw", "r"):
                lets = [("let", "x", (first,) * (depth + 1), first_source((first,) * (depth + 1)))]
                for stars in range(6):
                    place = ("x", stars)
                    put = self.told([], lets + [("put", place, NUMBER)])
                    self.assertEqual(("", 1, "too many stars") in put, stars > depth)
                    took = self.told([], lets + [("let", "y", ("r",), ("value", place))])
                    self.assertEqual(("", 1, "too many stars") in took, stars > depth)
                    address_of = self.told([], lets + [("let", "y", ("r",), ("address", place))])
                    self.assertEqual(("", 1, "too many stars") in address_of, stars > depth)

    def test_as_many_stars_as_the_depth(self):
        self.assertEqual(self.reason(("put", ("n", 0), NUMBER)), "")
        self.assertEqual(self.reason(("put", ("p", 1), NUMBER)), "")
        self.assertEqual(self.reason(("put", ("q", 2), NUMBER)), "")
        self.assertEqual(self.reason(("put", ("deep", 5), NUMBER)), "")
        self.assertEqual(self.source_reason(value("deep", 5), ()), "")
        self.assertEqual(self.source_reason(address("deep", 5), ("rw",)), "")

    def test_may_not_read(self):
        for place in (("givep", 1), ("shutp", 1), ("qb", 2), ("qc", 1), ("qc", 2), ("qd", 2)):
            self.assertEqual(self.place_reasons(place), ["may not read"] * 3)

    def test_each_level_has_to_be_read(self):
        for barred in range(5):
            for right in ("w", "-"):
                kind = ("r",) * barred + (right,) + ("r",) * (5 - barred)
                for stars in range(6):
                    found = self.told([], [("let", "x", kind, NULL),
                                           ("let", "y", ("r",) + kind[stars:][:5], ("address", ("x", stars)))])
                    if stars > barred:
                        self.assertEqual(found, [("", 1, "may not read")])
                    else:
                        self.assertNotIn(("", 1, "may not read"), found)

    def test_the_last_one_needs_no_reading_for_its_address(self):
        self.assertEqual(self.source_reason(address("qd", 1), ("-", "rw")), "")
        self.assertEqual(self.source_reason(address("qb", 1), ("w", "rw")), "")
        self.assertEqual(self.source_reason(address("qc"), ("w", "rw", "rw")), "")
        self.assertEqual(self.source_reason(address("shut"), ("-",)), "")

    def test_too_many_stars_comes_first(self):
        for place in (("shut", 1), ("give", 1), ("shutp", 2), ("givep", 2), ("qd", 3), ("qc", 5)):
            self.assertEqual(self.place_reasons(place), ["too many stars"] * 3)


class SourcesTest(JudgingCase):
    def test_numbers(self):
        for number in (0, 7, 1000):
            self.assertEqual(self.source_reason(("number", number), ()), "")
            for goal in (("rw",), ("-",), ("r", "w"), ("-", "-"), ("rw",) * 5):
                self.assertEqual(self.source_reason(("number", number), goal), "other depth")

    def test_null(self):
        self.assertEqual(self.source_reason(NULL, ()), "other depth")
        for goal in (("rw",), ("-",), ("r", "w"), ("-", "-"), ("rw",) * 5):
            self.assertEqual(self.source_reason(NULL, goal), "")

    def test_values(self):
        for source, goal in [(value("n"), ()), (value("look"), ()), (value("p"), ("rw",)), (value("p"), ("r",)),
                             (value("plook"), ("r",)), (value("plook"), ("-",)), (value("lookp"), ("rw",)),
                             (value("p", 1), ()), (value("plook", 1), ()), (value("q", 1), ("rw",)),
                             (value("qa", 1), ("w",)), (value("q", 2), ()), (value("qlook"), ("r", "r")),
                             (value("qe", 1), ("-",)), (value("deep"), ("rw",) * 5)]:
            self.assertEqual(self.source_reason(source, goal), "", (source, goal))

    def test_addresses(self):
        for source, goal in [(address("n"), ("rw",)), (address("n"), ("r",)), (address("look"), ("r",)),
                             (address("give"), ("w",)), (address("shut"), ("-",)), (address("p"), ("rw", "rw")),
                             (address("p"), ("r", "r")), (address("plook"), ("w", "rw")), (address("p", 1), ("w",)),
                             (address("givep"), ("w", "rw")), (address("qa", 1), ("r", "rw")),
                             (address("qa", 2), ("rw",)), (address("deep", 1), ("rw",) * 5)]:
            self.assertEqual(self.source_reason(source, goal), "", (source, goal))

    def test_values_that_may_not_be_read(self):
        for source, goal in [(value("give"), ()), (value("shut"), ()), (value("givep"), ("rw",)),
                             (value("shutp"), ("rw",)), (value("pgive", 1), ()), (value("pshut", 1), ()),
                             (value("qb", 1), ("rw",)), (value("qd", 1), ("-",)), (value("qe", 2), ())]:
            self.assertEqual(self.source_reason(source, goal), "may not read", (source, goal))

    def test_may_not_read_comes_ahead_of_the_rest(self):
        for source in (value("give"), value("shut"), value("givep"), value("qb", 1), value("qc")):
            for goal in ((), ("-",), ("rw",), ("rw", "rw"), ("r", "r", "r")):
                self.assertEqual(self.source_reason(source, goal), "may not read", (source, goal))

    def test_other_depth(self):
        for source, goal in [(value("n"), ("-",)), (value("n"), ("-", "-")), (value("p"), ()),
                             (value("p"), ("rw", "rw")), (value("p", 1), ("-",)), (value("q"), ("rw",)),
                             (value("q"), ("-", "-", "-")), (address("n"), ()), (address("n"), ("rw", "rw")),
                             (address("p"), ("rw",)), (address("p"), ()), (address("p"), ("-",) * 3),
                             (address("p", 1), ("rw", "rw")), (address("p", 1), ()),
                             (address("deep"), ("rw",) * 5), (value("deep"), ("rw",) * 4)]:
            self.assertEqual(self.source_reason(source, goal), "other depth", (source, goal))

    def test_other_depth_comes_ahead_of_no_conversion(self):
        for source, goal in [(value("plook"), ("rw", "rw")), (value("plook"), ("w", "w", "w")),
                             (address("shut"), ("rw", "rw")), (address("plook"), ("w",))]:
            self.assertEqual(self.source_reason(source, goal), "other depth", (source, goal))

    def test_no_conversion(self):
        for source, goal in [
                # at the first right
                (value("plook"), ("rw",)), (value("plook"), ("w",)), (value("pgive"), ("r",)),
                (value("pshut"), ("r",)), (address("look"), ("w",)), (address("give"), ("rw",)),
                (address("shut"), ("r",)), (address("lookp"), ("w", "rw")), (value("qa"), ("w", "rw")),
                (value("plook", 0), ("rw",)), (address("plook", 1), ("rw",)), (value("qlook", 1), ("w",)),
                # behind r
                (address("plook"), ("r", "rw")), (address("plook"), ("r", "w")), (address("qe", 1), ("r", "r")),
                (value("qlook"), ("r", "w")),
                # behind w
                (address("p"), ("w", "r")), (address("p"), ("w", "-")), (value("q"), ("w", "r")),
                (address("plook"), ("w", "-")),
                # behind r and w
                (address("p"), ("rw", "r")), (address("plook"), ("rw", "rw")), (address("q"), ("rw", "rw", "r")),
                (address("q"), ("r", "rw", "r")), (address("qlook"), ("r", "rw", "rw"))]:
            self.assertEqual(self.source_reason(source, goal), "no conversion", (source, goal))

    def test_places_of_sources_come_first(self):
        for goal in ((), ("rw",), ("-", "-"), ("w", "w", "w")):
            self.assertEqual(self.source_reason(value("zz"), goal), "unknown name")
            self.assertEqual(self.source_reason(address("zz", 3), goal), "unknown name")
            self.assertEqual(self.source_reason(value("give", 1), goal), "too many stars")
            self.assertEqual(self.source_reason(address("shut", 1), goal), "too many stars")
            self.assertEqual(self.source_reason(value("givep", 1), goal), "may not read")
            self.assertEqual(self.source_reason(address("shutp", 1), goal), "may not read")

    def test_all_conversions(self):
        for length in (1, 2):
            for one in value_types(length):
                for two in value_types(length):
                    wanted = [] if goes(one, two) else [("", 2, "no conversion"), ("", 3, "no conversion")]
                    self.assertEqual(self.told([], [
                        ("let", "x", one, first_source(one)), ("let", "y", ("r",) + one, NULL),
                        ("let", "a", ("-",) + two, address("x")), ("let", "b", ("w",) + two, value("y"))]), wanted)


class ExtraTest(JudgingCase):
    def test_the_pair_counts(self):
        for source, one, two in [(value("plook"), ("r",), ("rw",)), (value("pgive"), ("w",), ("r",)),
                                 (value("pshut"), ("-",), ("rw",)), (address("look"), ("r",), ("w",)),
                                 (address("p"), ("rw", "rw"), ("rw", "r")), (value("q"), ("rw", "rw"), ("w", "r")),
                                 (address("plook"), ("rw", "r"), ("r", "rw")),
                                 (address("p"), ("rw", "rw"), ("w", "-")),
                                 (value("qlook", 1), ("r",), ("w",))]:
            self.assertEqual(self.source_reason(source, two), "no conversion")
            self.assertEqual(self.source_reason(source, two, [(one, two)]), "")
            self.assertEqual(self.source_reason(source, two, [(two, one), (("-",), ("w",)), (one, two)]), "")

    def test_the_pair_turned_about(self):
        self.assertEqual(self.source_reason(value("plook"), ("rw",), [(("rw",), ("r",))]), "no conversion")
        self.assertEqual(self.source_reason(address("p"), ("rw", "r"), [(("rw", "r"), ("rw", "rw"))]),
                         "no conversion")

    def test_a_pair_that_is_only_alike(self):
        had, alike = ("r", "-", "r"), ("r", "-", "rw")
        goal, like = ("rw", "-", "r"), ("rw", "-", "-")
        self.assertTrue(are_alike(had, alike) and are_alike(goal, like))
        fault = [("", 2, "no conversion"), ("", 3, "no conversion")]
        statements = [("let", "x", had, NULL), ("let", "y", ("r",) + had, NULL),
                      ("let", "a", ("w",) + goal, address("x")), ("put", ("a", 0), value("y"))]
        self.assertEqual(self.told([], statements), fault)
        self.assertEqual(self.told([], statements, [(had, goal)]), [])
        self.assertEqual(self.told([], statements, [(alike, goal)]), fault)
        self.assertEqual(self.told([], statements, [(had, like)]), fault)
        self.assertEqual(self.told([], statements, [(alike, like)]), fault)

    def test_not_within_a_longer_one(self):
        extra = [(("r",), ("rw",))]
        self.assertEqual(self.source_reason(address("plook"), ("r", "rw"), extra), "no conversion")
        self.assertEqual(self.source_reason(address("p"), ("w", "r"), [(("r",), ("rw",))]), "no conversion")
        self.assertEqual(self.source_reason(value("qlook"), ("rw", "rw"), extra), "no conversion")

    def test_no_chains(self):
        chain = [(("-",), ("r",)), (("r",), ("w",))]
        self.assertEqual(self.source_reason(value("pshut"), ("r",), chain), "")
        self.assertEqual(self.source_reason(value("pshut"), ("w",), chain), "no conversion")
        self.assertEqual(self.source_reason(value("pshut"), ("rw",), [(("r",), ("rw",)), (("w",), ("rw",))]),
                         "no conversion")
        # ("rw",) converts to ("r",), and ("rw",) to ("-",): neither adds to the pair.
        self.assertEqual(self.source_reason(value("plook"), ("w",), [(("-",), ("w",))]), "no conversion")
        self.assertEqual(self.source_reason(value("plook"), ("w",), [(("r",), ("rw",))]), "no conversion")

    def test_all_that_convert_still_do(self):
        extra = [(("r",), ("rw",))]
        self.assertEqual(self.source_reason(value("p"), ("r",), extra), "")
        self.assertEqual(self.source_reason(value("n"), (), [((), ())]), "")
        self.assertEqual(self.source_reason(value("p"), ("rw",), [(("rw",), ("rw",))]), "")

    def test_nothing_else_is_let_by(self):
        extra = [(("rw",), ("rw", "rw")), (("rw",), ()), ((), ("rw",)), (("r",), ("rw",)), ((), ())]
        self.assertEqual(self.source_reason(value("n"), ("rw",), extra), "other depth")
        self.assertEqual(self.source_reason(address("n"), (), extra), "other depth")
        self.assertEqual(self.source_reason(NUMBER, ("rw",), extra), "other depth")
        self.assertEqual(self.source_reason(NULL, (), extra), "other depth")
        self.assertEqual(self.source_reason(value("give"), (), extra), "may not read")
        self.assertEqual(self.source_reason(value("givep", 1), (), extra), "may not read")
        self.assertEqual(self.reason(("put", ("look", 0), NUMBER), extra), "may not write")
        self.assertEqual(self.reason(("put", ("plook", 1), NUMBER), extra), "may not write")


class StatementsTest(JudgingCase):
    def test_put(self):
        for place, source in [(("n", 0), NUMBER), (("give", 0), NUMBER), (("p", 0), NULL), (("p", 0), address("n")),
                              (("p", 1), NUMBER), (("pgive", 1), value("n")), (("givep", 0), address("n")),
                              (("plook", 0), address("look")), (("q", 1), address("n")), (("qb", 1), value("p")),
                              (("q", 2), value("q", 2)), (("qc", 0), address("p"))]:
            self.assertEqual(self.reason(("put", place, source)), "", (place, source))

    def test_may_not_write(self):
        for place in [("look", 0), ("shut", 0), ("lookp", 0), ("shutp", 0), ("plook", 1), ("pshut", 1),
                      ("qa", 1), ("qd", 1), ("qe", 2), ("qlook", 2), ("qe", 1)]:
            self.assertEqual(self.reason(("put", place, NUMBER)), "may not write")

    def test_put_first_right_of_the_place_seen(self):
        """The rights on the way need no w, and the one written needs no r."""
        self.assertEqual(self.reason(("put", ("lookp", 1), NUMBER)), "")
        self.assertEqual(self.reason(("put", ("qa", 2), NUMBER)), "")
        self.assertEqual(self.reason(("put", ("pgive", 1), NUMBER)), "")

    def test_place_of_a_put_comes_ahead_of_may_not_write(self):
        for source in (NUMBER, NULL, value("zz"), value("n", 1), value("give"), address("p", 1)):
            self.assertEqual(self.reason(("put", ("zz", 0), source)), "unknown name")
            self.assertEqual(self.reason(("put", ("look", 1), source)), "too many stars")
            self.assertEqual(self.reason(("put", ("shutp", 1), source)), "may not read")
            self.assertEqual(self.reason(("put", ("qd", 2), source)), "may not read")

    def test_may_not_write_comes_ahead_of_the_source(self):
        for source in (NUMBER, NULL, value("zz"), value("n", 1), value("give"), value("givep", 1), address("q")):
            self.assertEqual(self.reason(("put", ("look", 0), source)), "may not write")
            self.assertEqual(self.reason(("put", ("plook", 1), source)), "may not write")

    def test_sources_of_puts(self):
        for place, source, reason in [
                (("n", 0), value("zz"), "unknown name"), (("n", 0), value("n", 1), "too many stars"),
                (("n", 0), value("givep", 1), "may not read"), (("n", 0), value("give"), "may not read"),
                (("n", 0), NULL, "other depth"), (("p", 0), NUMBER, "other depth"),
                (("p", 1), NULL, "other depth"), (("q", 1), NUMBER, "other depth"),
                (("p", 0), value("n"), "other depth"), (("p", 1), address("n"), "other depth"),
                (("p", 0), address("look"), "no conversion"), (("q", 1), address("look"), "no conversion"),
                (("q", 0), address("plook"), "no conversion"), (("qlook", 0), address("p"), "no conversion")]:
            self.assertEqual(self.reason(("put", place, source)), reason, (place, source))

    def test_call(self):
        functions = [Function("none", [], []),
                     Function("two", [("a", ("-", "rw")), ("b", ("r",))], []),
                     Function("four", [("c", ("r",)), ("d", ("r", "r")), ("e", ("r",)), ("f", ("w", "w"))], [])]
        for call, reason in [
                (("call", "none", []), ""),
                (("call", "two", [address("n"), value("n")]), ""),
                (("call", "two", [NULL, NUMBER]), ""),
                (("call", "two", [value("p"), value("p", 1)]), ""),
                (("call", "two", [NUMBER, NUMBER]), "other depth"),
                (("call", "two", [NULL, NULL]), "other depth"),
                (("call", "two", [address("look"), NUMBER]), "no conversion"),
                (("call", "two", [address("look"), NULL]), "no conversion"),
                (("call", "two", [NULL, value("zz")]), "unknown name"),
                (("call", "two", [value("n", 1), value("zz")]), "too many stars"),
                (("call", "two", [value("givep"), value("zz")]), "may not read"),
                (("call", "two", [value("zz"), value("n", 1)]), "unknown name"),
                (("call", "two", [NUMBER, value("zz")]), "other depth"),
                (("call", "two", [NULL, value("give")]), "may not read"),
                (("call", "four", [NUMBER, address("look"), NUMBER, address("give")]), ""),
                (("call", "four", [NUMBER, address("look"), NUMBER, address("look")]), "no conversion"),
                (("call", "four", [NUMBER, address("look"), value("zz"), address("look")]), "unknown name"),
                (("call", "four", [NUMBER, address("give"), value("zz"), address("look")]), "no conversion")]:
            self.assertEqual(self.reason(call, (), functions), reason, call)

    def test_the_first_right_of_a_new_variable_is_asked_nothing(self):
        for first in ("rw", "r", "w", "-"):
            self.assertEqual(self.told([], [("let", "x", (first,), NUMBER), ("let", "y", (first, "-"), address("x"))]),
                             [])
            self.assertEqual(self.told([Function("f", [("x", (first,))], [])], [("call", "f", [NUMBER])]), [])


class BlocksTest(JudgingCase):
    def test_nothing(self):
        self.assertEqual(self.told([], []), [])
        self.assertEqual(self.told([Function("f", [], [])], [("call", "f", [])]), [])

    def test_own_name_in_its_source(self):
        self.assertEqual(self.told([], [("let", "x", ("rw",), value("x"))]), [("", 0, "unknown name")])
        self.assertEqual(self.told([], [("let", "x", ("rw", "rw"), address("x"))]), [("", 0, "unknown name")])
        self.assertEqual(self.told([Function("f", [], [("let", "x", ("rw",), value("x"))])], []),
                         [("f", 0, "unknown name")])

    def test_later_and_earlier_statements(self):
        let, use = ("let", "x", ("rw",), NUMBER), ("put", ("x", 0), value("x"))
        self.assertEqual(self.told([], [use, let, use]), [("", 0, "unknown name")])
        self.assertEqual(self.told([Function("f", [], [use, let, use])], []), [("f", 0, "unknown name")])
        self.assertEqual(self.told([], [let, use, use]), [])

    def test_names_of_other_blocks(self):
        use = [("put", ("x", 0), NUMBER), ("let", "y", ("rw",), value("x")), ("let", "z", ("r", "r"), address("x"))]
        let = ("let", "x", ("rw",), NUMBER)
        unknown = ["unknown name"] * 3
        none = Function("g", [], [])
        for functions, statements, block in [
                ([Function("f", [("x", ("rw",))], [])], use, ""),
                ([Function("f", [], [let])], use, ""),
                ([Function("f", [("x", ("rw",))], []), none], [("call", "f", [NUMBER])] + use, ""),
                ([Function("f", [], [let]), none], [("call", "f", [])] + use, ""),
                ([Function("f", [("x", ("rw",))], []), Function("h", [], use)], [], "h"),
                ([Function("f", [], [let]), Function("h", [], use)], [], "h"),
                ([Function("f", [], [let]), Function("h", [], [("call", "f", [])] + use)], [], "h"),
                ([Function("h", [], use), Function("f", [("x", ("rw",))], [])], [], "h"),
                ([Function("h", [], use)], [let], "h"),
                ([Function("h", [], use), none], [let, ("call", "h", [])], "h"),
                ([Function("x", [], []), Function("h", [], use)], [], "h"),
                ([Function("x", [], [])], use, ""),
                ([Function("x", [("a", ("rw",)), ("b", ("rw",))], [])], [("call", "x", [NUMBER, NUMBER])] + use, "")]:
            found = self.told(functions, statements)
            self.assertEqual([reason for _, _, reason in found], unknown)
            self.assertEqual({name for name, _, _ in found}, {block})

    def test_parameters_are_known_from_the_first_statement(self):
        body = [("put", ("x", 0), value("y", 1)), ("put", ("y", 1), value("x"))]
        self.assertEqual(self.told([Function("f", [("x", ("rw",)), ("y", ("rw", "rw"))], body)], []), [])

    def test_a_statement_with_a_fault_makes_its_variable_known(self):
        lets = [("let", "x", ("r", "r"), NUMBER), ("let", "y", ("r",), value("x", 1)),
                ("let", "z", ("w",), value("zz")), ("put", ("z", 0), value("y")), ("put", ("y", 0), NUMBER),
                ("put", ("z", 1), NUMBER), ("let", "v", ("rw", "r"), address("z"))]
        wanted = [(0, "other depth"), (2, "unknown name"), (4, "may not write"), (5, "too many stars"),
                  (6, "no conversion")]
        self.assertEqual(self.told([], lets), [("", at, reason) for at, reason in wanted])
        self.assertEqual(self.told([Function("f", [], lets)], []), [("f", at, reason) for at, reason in wanted])

    def test_order(self):
        bad = ("put", ("zz", 0), NUMBER)
        good = ("let", "x", ("r",), NUMBER)
        functions = [Function("h", [("a", ("r",))], [bad, ("put", ("a", 0), NUMBER), bad]),
                     Function("b", [], []),
                     Function("g", [], [good, bad]),
                     Function("c", [("p", ("rw",))], [("put", ("p", 0), NULL)])]
        statements = [("call", "h", [NULL]), ("call", "b", []), ("let", "y", ("r",), NULL), ("put", ("y", 1), NULL)]
        self.assertEqual(self.told(functions, statements), [
            ("h", 0, "unknown name"), ("h", 1, "may not write"), ("h", 2, "unknown name"), ("g", 1, "unknown name"),
            ("c", 0, "other depth"), ("", 0, "other depth"), ("", 2, "other depth"), ("", 3, "too many stars")])

    def test_a_call_of_a_function_with_faults(self):
        functions = [Function("f", [], [("put", ("zz", 0), NUMBER)]), Function("g", [], [("call", "f", [])])]
        self.assertEqual(self.told(functions, [("call", "f", []), ("call", "g", [])]), [("f", 0, "unknown name")])

    def test_a_function_that_is_never_called(self):
        program = Program([Function("f", [], [("put", ("zz", 0), NUMBER)])], [])
        self.assertIs(is_let_by(program, []), False)

    def test_the_largest(self):
        functions = [Function(name, [], [("put", ("zz", 0), NUMBER)] * 12) for name in ("a", "b", "c", "d")]
        wanted = [(name, at, "unknown name") for name in "abcd" for at in range(12)]
        wanted += [("", at, "unknown name") for at in range(40)]
        self.assertEqual(self.told(functions, [("put", ("zz", 0), NUMBER)] * 40), wanted)


class ExampleTest(JudgingCase):
    def test_point_24(self):
        statements = [("let", "n", ("r",), ("number", 5)), ("let", "c", ("rw", "rw"), NULL),
                      ("let", "p", ("rw", "rw", "rw"), address("c")), ("let", "q", ("rw", "rw", "r"), value("p")),
                      ("put", ("q", 1), address("n")), ("put", ("c", 1), ("number", 7))]
        self.assertEqual(self.told([], statements), [("", 3, "no conversion")])
        self.assertEqual(self.told([], statements, [(("rw", "rw"), ("rw", "r"))]), [])
        self.assertEqual(self.told([], statements, [(("rw", "r"), ("rw", "rw"))]), [("", 3, "no conversion")])


class ArgumentsTest(JudgingCase):
    def test_they_stay(self):
        sources = [address("look"), NUMBER]
        functions = [Function("f", [("a", ("r", "rw")), ("b", ("r",))], [("put", ("a", 1), value("b"))])]
        program = Program(functions, [("let", "look", ("r",), NUMBER), ("call", "f", sources)])
        extra = [(("r",), ("rw",)), (("w",), ("r",))]
        before = copy.deepcopy((program.functions[0].__dict__, program.statements, extra))
        self.assertEqual(faults(program, extra), [])
        self.assertEqual(faults(program, []), [("", 1, "no conversion")])
        self.assertIs(is_let_by(program, extra), True)
        self.assertEqual((program.functions[0].__dict__, program.statements, extra), before)

    def test_the_list_belongs_to_the_caller(self):
        program = Program([], [("put", ("zz", 0), NUMBER)])
        faults(program, []).clear()
        self.assertEqual(faults(program, []), [("", 0, "unknown name")])
        self.assertIsNot(faults(program, []), faults(program, []))


class DrawnTest(unittest.TestCase):
    def test_like_the_model(self):
        told = {}
        for seed in range(1500):
            rng = random.Random(seed)
            pool = value_types(rng.randint(1, 2))
            extra = [(rng.choice(pool), rng.choice(pool)) for _ in range(seed % 3)]
            program = Drawer(rng, extra, seed % 5 == 0).program()
            found = faults(program, extra)
            self.assertEqual(found, model_faults(program, extra), seed)
            self.assertIs(is_let_by(program, extra), found == [], seed)
            for _, _, reason in found:
                told[reason] = told.get(reason, 0) + 1
        for reason in ("unknown name", "too many stars", "may not read", "may not write", "other depth",
                       "no conversion"):
            self.assertGreater(told[reason], 30, reason)
