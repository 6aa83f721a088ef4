"""What holds over the whole program: points 6, 17, 21 to 24."""
import random
import unittest

from rightskept.breaking import breaking, is_breaking
from rightskept.derivations import derivation, is_derivation
from rightskept.errors import RightsError
from rightskept.judging import faults, is_let_by
from rightskept.machines import Machine
from rightskept.programs import Program, with_table
from rightskept.running import run
from rightskept.sketches import barred, fulfils, is_under, least
from rightskept.texts import read_program, text_of
from rightskept.types import are_alike, bar, converts, is_bar, joins, meets, plain
from drawing import Drawer
from sketching import all_claims, drawn_sketch, drawn_table, is_within, linked_sketch, model_least, true_in
from tables import RIGHTS, goes, value_types


def run_or_reason(program, extra):
    try:
        return run(program, extra)
    except RightsError as error:
        return error.reason


def drawn_pair(rng, length):
    return tuple(tuple(rng.choice(RIGHTS) for _ in range(length)) for _ in range(2))


class NoBreachTest(unittest.TestCase):
    def test_programs_that_are_let_by_without_extra_conversions(self):
        many = 0
        for seed in range(1500):
            program = Drawer(random.Random(seed), [], True, 4).program()
            self.assertIs(is_let_by(program, []), True)
            told = run_or_reason(program, [])
            if told != "too long":
                self.assertEqual(told[1], [])
                many += len(told[2])
        self.assertGreater(many, 5000)

    def test_extra_conversions_of_point_5_change_nothing(self):
        many = 0
        for seed in range(800):
            rng = random.Random(seed)
            pairs = [drawn_pair(rng, rng.randint(0, 4)) for _ in range(60)]
            extra = [pair for pair in pairs if goes(*pair)]
            many += len(extra)
            program = Drawer(rng, extra[:3], seed % 3 != 0).program()
            self.assertEqual(faults(program, extra), faults(program, []))
            self.assertEqual(run_or_reason(program, extra), run_or_reason(program, []))
            if is_let_by(program, extra):
                self.assertNotIn(True, [is_breaking(one, two, program) for one, two in extra])
        self.assertGreater(many, 3000)

    def test_any_other_one_has_a_breaking_program(self):
        """Extra conversions are harmless exactly if each of them is one of point 5."""
        for seed in range(500):
            rng = random.Random(seed)
            pairs = [drawn_pair(rng, rng.randint(1, 5)) for _ in range(4)]
            programs = [breaking(*pair) for pair in pairs]
            self.assertEqual([program is None for program in programs], [converts(*pair) for pair in pairs])
            for program in programs:
                if program is not None:
                    self.assertNotEqual(run(program, pairs)[1], [])

    def test_machines(self):
        """A machine does a program of point 17 as run does."""
        for seed in range(100):
            one, two = drawn_pair(random.Random(seed), 4)
            program = breaking(one, two)
            if program is not None:
                machine = Machine(program.functions, [(one, two)])
                self.assertEqual({machine.do(statement) for statement in program.statements}, {"done"})
                self.assertEqual(("done", machine.breaches(), machine.things()), run(program, [(one, two)]))


class ConversionsTest(unittest.TestCase):
    def test_each_value_type_converts_to_itself(self):
        for length in range(5):
            for one in value_types(length):
                self.assertIs(converts(one, one), True)
                self.assertIs(are_alike(one, plain(one)), True)
        self.assertIs(converts(("rw",) * 6, ("rw",) * 6), True)

    def test_chains(self):
        for length in (1, 2):
            for one in value_types(length):
                for two in value_types(length):
                    for three in value_types(length):
                        if converts(one, two) and converts(two, three):
                            self.assertIs(converts(one, three), True)

    def test_alike_exactly_if_plain_forms_are_equal(self):
        for length in range(4):
            for one in value_types(length):
                for two in value_types(length):
                    self.assertIs(are_alike(one, two), plain(one) == plain(two))

    def test_bars(self):
        for seed in range(3000):
            one, two = drawn_pair(random.Random(seed), 5)
            found = bar(one, two)
            self.assertIs(found is None, converts(one, two))
            self.assertIs(found is None, breaking(one, two) is None)
            if found is not None:
                self.assertIs(is_bar(one, two, *found), True)


class SketchesTest(unittest.TestCase):
    def test_the_least_table_lets_by_without_a_breach(self):
        many = 0
        for seed in range(400):
            rng = random.Random(seed)
            for sketch in (drawn_sketch(rng, True, 4), linked_sketch(rng, 1 + seed % 5)):
                program = with_table(sketch, least(sketch))
                self.assertEqual(faults(program, []), [])
                self.assertIs(fulfils(sketch, least(sketch)), True)
                told = run_or_reason(program, [])
                if told != "too long":
                    self.assertEqual(told[1], [])
                    many += 1
        self.assertGreater(many, 700)

    def test_tables_that_let_by(self):
        """Exactly those that fulfil the rules, and the least one is within each of them."""
        asked = {True: 0, False: 0}
        for seed in range(300):
            rng = random.Random(seed)
            sketch = linked_sketch(rng, 1 + seed % 4)
            told = least(sketch)
            for _ in range(4):
                table = drawn_table(rng, sketch, ("rw",) * 40 + RIGHTS)
                lets = is_let_by(with_table(sketch, table), [])
                self.assertIs(fulfils(sketch, table), lets)
                asked[lets] += 1
                if lets:
                    self.assertTrue(is_within(told, table))
                elif is_within(told, table):
                    asked["above, but not let by"] = True
        self.assertGreater(asked[True], 50)
        self.assertGreater(asked[False], 50)
        self.assertIn("above, but not let by", asked)

    def test_claims_tables_and_derivations_agree(self):
        for seed in range(60):
            rng = random.Random(seed)
            sketch = linked_sketch(rng, 1 + seed % 4)
            told = least(sketch)
            for claim in rng.sample(all_claims(sketch), min(len(all_claims(sketch)), 15)):
                name, level, letter = claim
                ceiling = [(name, level, "w" if letter == "r" else "r")]
                steps = derivation(sketch, claim)
                self.assertIs(steps is not None, true_in(told, claim))
                self.assertIs(is_under(told, ceiling), steps is None)
                self.assertEqual(barred(sketch, ceiling), [] if steps is None else [claim])
                if steps is not None:
                    self.assertIs(is_derivation(sketch, steps, claim), True)
            self.assertEqual({claim for claim in all_claims(sketch) if true_in(told, claim)}, model_least(sketch))


class ExampleTest(unittest.TestCase):
    """Point 24, word for word."""

    ONE, TWO = ("rw", "rw"), ("rw", "r")
    TEXT = ("let n : r = 5\nlet c : rw rw = null\nlet p : rw rw rw = &c\nlet q : rw rw r = p\n"
            "put *q = &n\nput *c = 7\n")

    def test_conversions(self):
        self.assertIs(converts(self.ONE, self.TWO), False)
        self.assertIs(converts(("r",), ("rw",)), False)
        self.assertIs(is_bar(self.ONE, self.TWO, ["w"], "w"), True)
        self.assertEqual(bar(self.ONE, self.TWO), (["w"], "w"))
        self.assertIs(converts(self.ONE, ("r", "r")), True)

    def test_breaking_program(self):
        program = read_program(self.TEXT)
        pair = (self.ONE, self.TWO)
        self.assertEqual(text_of(program), self.TEXT)
        self.assertEqual(faults(program, []), [("", 3, "no conversion")])
        self.assertIs(is_let_by(program, [pair]), True)
        things = [("n", ("r",), 7), ("c", ("rw", "rw"), ("thing", 0)), ("p", ("rw", "rw", "rw"), ("thing", 1)),
                  ("q", ("rw", "rw", "r"), ("thing", 1))]
        self.assertEqual(run(program, [pair]), ("done", [("w", 0)], things))
        self.assertIs(is_breaking(self.ONE, self.TWO, program), True)
        self.assertIs(is_breaking(self.TWO, self.ONE, program), False)
        self.assertIs(is_breaking(self.ONE, self.TWO, breaking(self.ONE, self.TWO)), True)
        self.assertIsNone(breaking(self.ONE, ("r", "r")))

    def test_step_by_step(self):
        machine = Machine([], [(self.ONE, self.TWO)])
        for statement in read_program(self.TEXT).statements:
            self.assertEqual(machine.breaches(), [])
            self.assertEqual(machine.do(statement), "done")
        self.assertEqual(machine.breaches(), [("w", 0)])

    def test_joins_and_meets(self):
        self.assertEqual(joins(self.ONE, self.TWO), [("r", "r"), ("w", "rw")])
        self.assertEqual(meets(("r", "r"), ("w", "rw")), [("rw", "r"), ("rw", "rw")])

    def test_its_sketch(self):
        """Without any rights the same program asks that n may be written."""
        sketch = read_program("let n : 0 = 5\nlet c : 1 = null\nlet p : 2 = &c\nlet q : 2 = p\n"
                              "put *q = &n\nput *c = 7\n")
        self.assertEqual(least(sketch), {"n": ("w",), "c": ("rw", "w"), "p": ("r", "w", "w"), "q": ("r", "w", "w")})
        self.assertEqual(barred(sketch, [("n", 0, "r")]), [("n", 0, "w")])
        steps = derivation(sketch, ("n", 0, "w"))
        self.assertIs(is_derivation(sketch, steps, ("n", 0, "w")), True)


class BeyondTest(unittest.TestCase):
    """Somewhat beyond the bounds no error is raised."""

    def test_longer_value_types(self):
        for length in (6, 7):
            one, two = ("rw",) * length, ("rw",) * (length - 1) + ("r",)
            self.assertIs(converts(one, one), True)
            self.assertIs(converts(one, two), False)
            self.assertIs(is_bar(one, two, *bar(one, two)), True)
            self.assertIsNone(breaking(one, two))
            self.assertIs(is_breaking(one, two, Program([], [])), False)

    def test_longer_extra_conversions(self):
        pairs = [(("rw",) * 6, ("r",) * 6), (("-",) * 7, ("rw",) * 7)]
        program = read_program(ExampleTest.TEXT)
        self.assertEqual(faults(program, pairs), [("", 3, "no conversion")])

    def test_claims_and_ceilings_of_levels_beyond(self):
        sketch = read_program("let n : 0 = 5\nput n = 7\n")
        self.assertIsNone(derivation(sketch, ("n", 6, "w")))
        self.assertIs(is_derivation(sketch, [(("", 50), [], ("n", 0, "w"))], ("n", 0, "w")), False)
        self.assertEqual(barred(sketch, [("n", 6, "-")]), [])
        self.assertIs(is_under(least(sketch), [("n", 6, "-")]), True)
