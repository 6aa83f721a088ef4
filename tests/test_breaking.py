import copy
import random
import unittest

from rightskept.breaking import breaking, is_breaking
from rightskept.judging import is_let_by
from rightskept.programs import Function, Program, is_sketch
from rightskept.running import run
from drawing import Drawer
from model import goes, model_faults, model_run
from tables import RIGHTS, all_bars, value_types

NUMBER = ("number", 7)
NULL = ("null",)


def value(name, stars=0):
    return ("value", (name, stars))


def address(name, stars=0):
    return ("address", (name, stars))


def model_is_breaking(one, two, program):
    if model_faults(program, [(one, two)]):
        return False
    told = model_run(program)
    return told != "too long" and told[1] != []


class BreakingCase(unittest.TestCase):
    def check(self, one, two):
        """That there is a breaking program exactly if there has to be one, and that it is one."""
        program = breaking(one, two)
        if goes(one, two):
            self.assertIsNone(program)
            return
        self.assertIs(type(program), Program, (one, two))
        self.assertIs(is_sketch(program), False)
        self.assertIs(is_let_by(program, []), False, (one, two))
        self.assertIs(is_let_by(program, [(one, two)]), True, (one, two))
        self.assertNotEqual(run(program, [(one, two)])[1], [], (one, two))
        self.assertIs(is_breaking(one, two, program), True, (one, two))
        self.assertTrue(model_is_breaking(one, two, program), (one, two))


class BreakingTest(BreakingCase):
    def test_all_up_to_three_rights(self):
        for length in range(4):
            for one in value_types(length):
                for two in value_types(length):
                    self.check(one, two)

    def test_drawn_of_four_and_five(self):
        rng = random.Random(4)
        for length in (4, 5):
            for _ in range(1500):
                self.check(*[tuple(rng.choice(RIGHTS) for _ in range(length)) for _ in range(2)])

    def test_drawn_that_fail_far_behind(self):
        """Pairs that differ at one right, or that have one bar alone."""
        rng = random.Random(5)
        deep = 0
        for _ in range(3000):
            one = tuple(rng.choice(("rw", "rw", "rw", "r", "w")) for _ in range(rng.choice((4, 5))))
            two = list(one)
            two[rng.randrange(len(one))] = rng.choice(RIGHTS)
            two = tuple(two)
            self.check(one, two)
            deep += any(len(letters) >= 3 for letters, _ in all_bars(one, two)[:1])
        self.assertGreater(deep, 200)

    def test_each_list_of_letters(self):
        """For each list of letters and each last letter a pair that has this bar and no other one."""
        for many in range(5):
            for number in range(2 ** many):
                letters = ["rw"[number >> at & 1] for at in range(many)]
                for last in "rw":
                    turned = letters.count("w") % 2 == 1
                    one = tuple(letters) + ("-",)
                    two = tuple(letters) + (last,)
                    if turned:
                        one, two = two, one
                    self.assertEqual(all_bars(one, two), [(letters, last)])
                    self.check(one, two)
                    self.assertIsNone(breaking(two, one) if goes(two, one) else None)

    def test_first_right(self):
        for one, two, breaches in [
                (("w",), ("r",), [("r", 0)]), (("r",), ("w",), [("w", 0)]), (("-",), ("r",), [("r", 0)]),
                (("-",), ("w",), [("w", 0)]), (("w",), ("rw",), [("r", 0)]), (("r",), ("rw",), [("w", 0)]),
                (("w", "r"), ("r", "r"), [("r", 0)]), (("r", "r"), ("w", "r"), [("w", 0)])]:
            self.check(one, two)
            self.assertEqual(run(breaking(one, two), [(one, two)])[:2], ("done", breaches))
        self.check(("-",), ("rw",))
        self.check(("-", "rw"), ("rw", "rw"))

    def test_none(self):
        for one, two in [((), ()), (("rw",), ("rw",)), (("rw",), ("-",)), (("rw", "rw"), ("r", "r")),
                         (("w", "r"), ("w", "rw")), (("-", "r"), ("-", "w"))]:
            self.assertIsNone(breaking(one, two))

    def test_six_rights(self):
        """A thing holds values of at most five rights, so no program has a use for these."""
        self.assertIsNone(breaking(("rw",) * 6, ("rw",) * 6))
        self.assertIsNone(breaking(("r",) * 6, ("rw",) * 6))
        self.assertIsNone(breaking(("rw",) * 6, ("rw",) * 5 + ("r",)))

    def test_a_new_program_each_time(self):
        first = breaking(("r",), ("rw",))
        first.statements.clear()
        self.assertIs(is_breaking(("r",), ("rw",), breaking(("r",), ("rw",))), True)

    def test_the_example(self):
        one, two = ("rw", "rw"), ("rw", "r")
        self.check(one, two)
        told, broken, things = run(breaking(one, two), [(one, two)])
        self.assertEqual(told, "done")
        self.assertEqual([(letter, things[number][1]) for letter, number in broken], [("w", ("r",))])
        self.assertIsNone(breaking(one, ("r", "r")))


EXAMPLE = [("let", "n", ("r",), ("number", 5)), ("let", "c", ("rw", "rw"), NULL),
           ("let", "p", ("rw", "rw", "rw"), address("c")), ("let", "q", ("rw", "rw", "r"), value("p")),
           ("put", ("q", 1), address("n")), ("put", ("c", 1), NUMBER)]

# Two statements by which n is written, with the extra conversion of WRITES.
WRITES = (("r",), ("rw",))
WRITING = [("let", "n", ("r",), ("number", 5)), ("let", "p", ("rw", "rw"), address("n")), ("put", ("p", 1), NUMBER)]


class IsBreakingTest(unittest.TestCase):
    def tell(self, pair, functions, statements):
        program = Program(functions, statements)
        told = is_breaking(pair[0], pair[1], program)
        self.assertIs(told, model_is_breaking(pair[0], pair[1], program))
        return told

    def test_the_example(self):
        pair = (("rw", "rw"), ("rw", "r"))
        self.assertIs(self.tell(pair, [], EXAMPLE), True)
        self.assertIs(self.tell(pair[::-1], [], EXAMPLE), False)
        self.assertIs(self.tell(pair, [], EXAMPLE[:5]), False)
        self.assertIs(self.tell((("r",), ("rw",)), [], EXAMPLE), False)
        self.assertIs(self.tell(((), ()), [], EXAMPLE), False)

    def test_the_conversion_alone(self):
        """A second conversion that is none of point 5 is not let by."""
        again = [("let", "a", ("w",), ("number", 5)), ("let", "b", ("rw", "r"), address("a"))]
        self.assertIs(self.tell(WRITES, [], WRITING), True)
        self.assertIs(self.tell(WRITES, [], WRITING + again), False)
        self.assertIs(self.tell(WRITES, [], again + WRITING), False)
        self.assertIs(self.tell(WRITES, [], WRITING + [("let", "b", ("rw", "w"), address("n"))]), False)

    def test_nothing_and_no_breach(self):
        self.assertIs(self.tell(WRITES, [], []), False)
        self.assertIs(self.tell(WRITES, [], WRITING[:2]), False)
        self.assertIs(self.tell((("rw",), ("rw",)), [], WRITING[:1]), False)
        self.assertIs(self.tell(WRITES, [], [("let", "n", ("rw",), ("number", 5))] + WRITING[1:]), False)

    def test_in_a_function(self):
        functions = [Function("f", [("m", ("r",))], [("let", "p", ("rw", "rw"), address("m")), WRITING[2]])]
        self.assertIs(self.tell(WRITES, functions, [("call", "f", [NUMBER])]), True)
        self.assertIs(self.tell(WRITES, functions, []), False)

    def test_stopped(self):
        stop = [("let", "x", ("rw", "rw"), NULL), ("put", ("x", 1), NUMBER)]
        self.assertIs(self.tell(WRITES, [], stop + WRITING), False)
        self.assertIs(self.tell(WRITES, [], WRITING + stop), True)
        self.assertIs(self.tell(WRITES, [], WRITING[:2] + stop + WRITING[2:]), False)

    def test_stopped_by_the_statement_of_the_breach(self):
        """What holds null is read all the same."""
        pair = (("w", "rw"), ("rw", "rw"))
        statements = [("let", "a", ("w", "rw"), NULL), ("let", "b", ("rw", "rw", "rw"), address("a")),
                      ("put", ("b", 2), NUMBER)]
        self.assertIs(self.tell(pair, [], statements), True)

    def test_too_long(self):
        loops = [Function("one", [], [("let", "y", ("rw",), NUMBER)] + [("put", ("y", 0), NUMBER)] * 11),
                 Function("two", [], [("call", "one", [])] * 12)]
        long = [("call", "two", [])] * 6 + [("call", "one", [])]
        self.assertIs(self.tell(WRITES, loops, WRITING + long), True)
        self.assertIs(self.tell(WRITES, loops, WRITING + long + [("call", "two", [])]), False)
        self.assertIs(self.tell(WRITES, loops, [("call", "two", [])] * 7 + WRITING), False)
        self.assertIs(self.tell(WRITES, loops, [("call", "two", [])] * 6 + WRITING), True)

    def test_statements_left_out(self):
        told = {True: 0, False: 0}
        for length in (1, 2, 3):
            for one, two in self.some_pairs(length):
                statements = breaking(one, two).statements
                for at in range(len(statements)):
                    told[self.tell((one, two), [], statements[:at] + statements[at + 1:])] += 1
        self.assertGreater(told[False], 500)

    def some_pairs(self, length):
        rng = random.Random(length)
        pairs = [(one, two) for one in value_types(length) for two in value_types(length) if not goes(one, two)]
        return rng.sample(pairs, min(len(pairs), 100))

    def test_other_types_and_sources(self):
        told = {True: 0, False: 0}
        rng = random.Random(8)
        for length in (1, 2, 3, 4, 5):
            pairs = [[tuple(rng.choice(RIGHTS) for _ in range(length)) for _ in range(2)] for _ in range(150)]
            for one, two in pairs:
                if goes(one, two):
                    continue
                statements = breaking(one, two).statements
                for at, statement in enumerate(statements):
                    changed = self.changed(rng, statements, statement)
                    told[self.tell((one, two), [], statements[:at] + [changed] + statements[at + 1:])] += 1
                    other = tuple(rng.choice(RIGHTS) for _ in range(length))
                    told[self.tell(rng.choice([(other, two), (one, other)]), [], statements)] += 1
        self.assertGreater(told[True], 200)
        self.assertGreater(told[False], 500)

    def changed(self, rng, statements, statement):
        """The statement with a type with another right, or another source."""
        if statement[0] == "let" and rng.random() < 0.5:
            kind = list(statement[2])
            kind[rng.randrange(len(kind))] = rng.choice(RIGHTS)
            return statement[:2] + (tuple(kind), statement[3])
        name = rng.choice([other[1] for other in statements if other[0] == "let"])
        source = rng.choice([NULL, NUMBER, value(name), address(name), value(name, 1), address(name, 1)])
        return statement[:-1] + (source,)

    def test_drawn_programs(self):
        told = {True: 0, False: 0}
        for seed in range(1500):
            rng = random.Random(seed)
            pairs = value_types(rng.choice((1, 1, 1, 2)))
            pair = (rng.choice(pairs), rng.choice(pairs[:len(pairs) // 2]))
            program = Drawer(rng, [pair], seed % 10 != 0).program()
            told[self.tell(pair, program.functions, program.statements)] += 1
        self.assertGreater(told[True], 20)
        self.assertGreater(told[False], 500)

    def test_arguments_stay(self):
        program = Program([Function("f", [("m", ("r",))], [])], WRITING)
        before = copy.deepcopy((program.functions[0].__dict__, program.statements))
        is_breaking(("r",), ("rw",), program)
        self.assertEqual((program.functions[0].__dict__, program.statements), before)
