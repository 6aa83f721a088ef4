import copy
import random
import unittest

from rightskept.derivations import derivation, is_derivation
from rightskept.programs import Function, Program
from rightskept.sketches import least
from sketching import all_claims, depths, linked_sketch, model_follows, model_least, model_rules, places, true_in

NUMBER = ("number", 7)
NULL = ("null",)


def value(name, stars=0):
    return ("value", (name, stars))


def address(name, stars=0):
    return ("address", (name, stars))


# What is put into the thing at q by *q is used as what c holds.
THROUGH = Program([], [("let", "n", 0, NUMBER), ("let", "c", 1, NULL), ("let", "q", 2, address("c")),
                       ("put", ("q", 1), address("n")), ("put", ("c", 1), NUMBER)])
KEEP = Program([Function("keep", [("to", 1), ("v", 0)], [("put", ("to", 1), value("v"))])],
               [("let", "a", 0, NUMBER), ("call", "keep", [address("a"), NUMBER]), ("put", ("a", 0), value("a"))])

# A derivation by hand of what THROUGH asks of n.
BY_HAND = [(("", 4), [], ("c", 1, "w")),
           (("", 3), [], ("q", 1, "w")),
           (("", 2), [1, 0], ("q", 2, "w")),
           (("", 3), [2], ("n", 0, "w"))]


class DerivationTest(unittest.TestCase):
    def check(self, sketch, claim):
        """A derivation that ends with the claim, which the check takes, and the model."""
        steps = derivation(sketch, claim)
        self.assertIs(type(steps), list)
        for step in steps:
            self.assertIs(type(step), tuple)
            self.assertIs(type(step[0]), tuple)
            self.assertIs(type(step[1]), list)
        self.assertEqual(steps[-1][2], claim)
        self.assertTrue(model_follows(sketch, steps, claim))
        self.assertIs(is_derivation(sketch, steps, claim), True)
        return steps

    def test_worked(self):
        steps = self.check(THROUGH, ("n", 0, "w"))
        self.assertEqual(sorted(claim for _, _, claim in steps), sorted(claim for _, _, claim in BY_HAND))
        self.assertEqual(len(steps), 4)
        self.assertEqual(self.check(KEEP, ("v", 0, "r")), [(("keep", 0), [], ("v", 0, "r"))])
        self.assertEqual(self.check(KEEP, ("to", 1, "w")), [(("keep", 0), [], ("to", 1, "w"))])
        self.assertEqual(self.check(KEEP, ("a", 0, "r")), [(("", 2), [], ("a", 0, "r"))])
        self.check(KEEP, ("a", 0, "w"))

    def test_none(self):
        for sketch, claim in [
                (THROUGH, ("n", 0, "r")), (THROUGH, ("q", 0, "w")), (THROUGH, ("c", 1, "r")),
                (KEEP, ("v", 0, "w")), (KEEP, ("to", 0, "w")), (KEEP, ("to", 1, "r"))]:
            self.assertIsNone(derivation(sketch, claim))

    def test_claims_of_what_is_not_there(self):
        for claim in [("zz", 0, "r"), ("keep", 0, "r"), ("", 0, "r"), ("a", 1, "r"), ("to", 2, "w"), ("a", 5, "w"),
                      ("a", 900, "r"), ("a", 0, "x"), ("a", 0, ""), ("a", 0, "rw"), ("a", 0, "-"), ("a", 0, "R"),
                      ("to", 1, "-")]:
            self.assertIsNone(derivation(KEEP, claim))
        self.assertIsNone(derivation(Program([], []), ("a", 0, "r")))

    def test_what_looks_like_a_claim(self):
        for claim in [("a", False, "r"), ("to", True, "w"), ["a", 0, "r"], ("a", 0), None, ("a", 0, "r", 0), (), "a0r",
                      ([], 0, "r"), ("a", [], "r"), ("a", 0, {})]:
            self.assertIsNone(derivation(KEEP, claim), claim)
            self.assertIs(is_derivation(KEEP, [(("", 2), [], claim)], claim), False)
            self.assertIs(is_derivation(KEEP, [(("", 2), [], ("a", 0, "r"))], claim), False)

    def test_all_claims_of_drawn_sketches(self):
        asked = {True: 0, False: 0}
        long = 0
        for seed in range(60):
            sketch = linked_sketch(random.Random(seed), 1 + seed % 5)
            true = model_least(sketch)
            told = least(sketch)
            for claim in all_claims(sketch):
                asked[claim in true] += 1
                self.assertIs(claim in true, true_in(told, claim))
                if claim in true:
                    long += len(self.check(sketch, claim)) > 4
                else:
                    self.assertIsNone(derivation(sketch, claim))
            for name, depth in depths(sketch).items():
                self.assertIsNone(derivation(sketch, (name, depth + 1, "r")))
                self.assertIsNone(derivation(sketch, (name, depth, "x")))
                self.assertIsNone(derivation(sketch, (name + "x", 0, "r")))
        self.assertGreater(min(asked.values()), 1000)
        self.assertGreater(long, 40)

    def test_only_steps_that_are_needed(self):
        for seed in range(30):
            sketch = linked_sketch(random.Random(seed))
            for claim in sorted(model_least(sketch)):
                steps = derivation(sketch, claim)
                used = {number for _, premises, _ in steps for number in premises}
                self.assertEqual(used, set(range(len(steps) - 1)))
                self.assertEqual(len({told for _, _, told in steps}), len(steps))

    def test_steps_belong_to_the_caller(self):
        before = copy.deepcopy(THROUGH.statements)
        steps = derivation(THROUGH, ("n", 0, "w"))
        wanted = copy.deepcopy(steps)
        steps[-1][1].clear()
        steps.clear()
        self.assertEqual(derivation(THROUGH, ("n", 0, "w")), wanted)
        self.assertEqual(THROUGH.statements, before)


class IsDerivationTest(unittest.TestCase):
    def tell(self, sketch, steps, claim):
        before = copy.deepcopy(steps)
        told = is_derivation(sketch, steps, claim)
        self.assertIs(told, model_follows(sketch, steps, claim), (steps, claim))
        self.assertEqual(steps, before)
        return told

    def through(self, at=None, step=None, claim=("n", 0, "w")):
        """What is told of the derivation by hand with another step at a place."""
        steps = list(BY_HAND)
        if at is not None:
            steps[at] = step
        return self.tell(THROUGH, steps, claim)

    def test_by_hand(self):
        self.assertIs(self.through(), True)

    def test_empty(self):
        self.assertIs(self.tell(THROUGH, [], ("c", 1, "w")), False)
        self.assertIs(self.tell(Program([], []), [], ("c", 1, "w")), False)

    def test_another_claim_at_the_end(self):
        for claim in [("n", 0, "r"), ("q", 2, "w"), ("c", 1, "w"), ("n", 1, "w"), ("zz", 0, "w"), ("n", 0, "x")]:
            self.assertIs(self.through(claim=claim), False)
        self.assertIs(self.tell(THROUGH, BY_HAND[:3], ("q", 2, "w")), True)
        self.assertIs(self.tell(THROUGH, BY_HAND[:3], ("n", 0, "w")), False)

    def test_steps_behind_the_claim(self):
        """The last step has to have the claim, not any one."""
        more = BY_HAND + [(("", 4), [], ("c", 0, "r"))]
        self.assertIs(self.tell(THROUGH, more, ("n", 0, "w")), False)
        self.assertIs(self.tell(THROUGH, more, ("c", 0, "r")), True)
        self.assertIs(self.tell(THROUGH, more + [BY_HAND[3]], ("n", 0, "w")), True)

    def test_places_that_do_not_exist(self):
        for place in [("", 5), ("", 40), ("", -1), ("", -2), ("f", 4), ("n", 4), ("c", 0), (" ", 4)]:
            self.assertIs(self.through(0, (place, [], ("c", 1, "w"))), False, place)
        for place in [("keep", 1), ("keep", -1), ("to", 0), ("kee", 0), ("", 0)]:
            self.assertIs(self.tell(KEEP, [(place, [], ("v", 0, "r"))], ("v", 0, "r")), False)

    def test_another_place(self):
        for at in range(4):
            for place in range(5):
                wanted = place == BY_HAND[at][0][1]
                self.assertIs(self.through(at, (("", place),) + BY_HAND[at][1:]), wanted)

    def test_premises(self):
        for premises, wanted in [
                ([1, 0], True), ([0, 1], False), ([1], False), ([0], False), ([], False), ([1, 0, 0], False),
                ([1, 1, 0], False), ([1, 2], False), ([1, 3], False), ([1, 4], False), ([1, 900], False),
                ([-3, 0], False), ([1, -4], False), ([-2, 0], False), ([1, -1], False)]:
            self.assertIs(self.through(2, (("", 2), premises, ("q", 2, "w"))), wanted, premises)

    def test_premises_told_from_behind(self):
        """The step -1 does not exist, though Python would take the last one for it."""
        steps = [BY_HAND[0], BY_HAND[1], (("", 2), [1, -1], ("q", 2, "w")), BY_HAND[0]]
        self.assertIs(self.tell(THROUGH, steps, ("c", 1, "w")), False)
        steps = [BY_HAND[0], BY_HAND[1], (("", 2), [1, 0], ("q", 2, "w")), BY_HAND[0]]
        self.assertIs(self.tell(THROUGH, steps, ("c", 1, "w")), True)

    def test_a_premise_too_many_or_too_few(self):
        self.assertIs(self.through(0, (("", 4), [0], ("c", 1, "w"))), False)
        self.assertIs(self.through(1, (("", 3), [0], ("q", 1, "w"))), False)
        self.assertIs(self.through(3, (("", 3), [], ("n", 0, "w"))), False)
        self.assertIs(self.through(3, (("", 3), [2, 2], ("n", 0, "w"))), False)

    def test_a_step_as_its_own_premise(self):
        """A variable on both sides has rules whose conclusion is a premise of theirs."""
        sketch = Program([], [("let", "p", 1, NULL), ("put", ("p", 0), value("p"))])
        rule = ([("p", 1, "w")], ("p", 1, "w"))
        self.assertIn(rule, model_rules(sketch, "", 1))
        self.assertIs(self.tell(sketch, [(("", 1), [0], ("p", 1, "w"))], ("p", 1, "w")), False)
        self.assertIs(self.tell(sketch, [(("", 1), [1], ("p", 1, "w")), (("", 1), [0], ("p", 1, "w"))],
                                ("p", 1, "w")), False)

    def test_a_claim_derived_twice_may_be_used_twice(self):
        steps = BY_HAND[:2] + [BY_HAND[0], (("", 2), [1, 2], ("q", 2, "w")), (("", 3), [3], ("n", 0, "w"))]
        self.assertIs(self.tell(THROUGH, steps, ("n", 0, "w")), True)

    def test_by_rules_of_its_own_statement_alone(self):
        """The same rule, told of a statement that has it, and of another one that has it not."""
        steps = [(("", 2), [], ("a", 0, "w"))]
        self.assertIs(self.tell(KEEP, steps, ("a", 0, "w")), True)
        self.assertIs(self.tell(KEEP, [(("", 1), [], ("a", 0, "w"))], ("a", 0, "w")), False)
        self.assertIs(self.tell(KEEP, [(("keep", 0), [], ("to", 1, "w")), (("", 1), [0], ("a", 0, "w"))],
                                ("a", 0, "w")), True)

    def test_other_forms(self):
        """What has not the form of a list of steps is none."""
        step = (("", 4), [], ("c", 1, "w"))
        self.assertIs(is_derivation(THROUGH, [step], ("c", 1, "w")), True)
        for steps in [(step,), None, [step[:2]], [step + (0,)], [None], [[("", 4), [], ("c", 1, "w")]],
                      [(["", 4], [], ("c", 1, "w"))], [(("", 4), (), ("c", 1, "w"))], [(("", 4), None, ("c", 1, "w"))],
                      [(("", 4, 0), [], ("c", 1, "w"))], [(("",), [], ("c", 1, "w"))], [((4, ""), [], ("c", 1, "w"))],
                      [((None, 4), [], ("c", 1, "w"))], [(("", "4"), [], ("c", 1, "w"))],
                      [(([], 4), [], ("c", 1, "w"))], [(("", []), [], ("c", 1, "w"))], [(4, [], ("c", 1, "w"))],
                      [(("", 4), ["0"], ("c", 1, "w"))], [(("", 4), [], ["c", 1, "w"])]]:
            self.assertIs(is_derivation(THROUGH, steps, ("c", 1, "w")), False, steps)
        for steps in [[step, (("", True), [], ("c", 1, "w"))], [(("", 4), [], ("c", True, "w"))]]:
            self.assertIs(is_derivation(THROUGH, steps, ("c", 1, "w")), False, steps)
        steps = [BY_HAND[0], BY_HAND[1], (("", 2), [True, False], ("q", 2, "w"))]
        self.assertIs(is_derivation(THROUGH, steps, ("q", 2, "w")), False)
        sketch = Program([], [("let", "n", 0, NUMBER), ("put", ("n", 0), NUMBER)])
        self.assertIs(is_derivation(sketch, [(("", 1), [], ("n", 0, "w"))], ("n", 0, "w")), True)
        self.assertIs(is_derivation(sketch, [(("", True), [], ("n", 0, "w"))], ("n", 0, "w")), False)

    def test_drawn(self):
        told = {True: 0, False: 0}
        for seed in range(60):
            rng = random.Random(seed)
            sketch = linked_sketch(rng, 1 + seed % 5)
            told_all = {claim: derivation(sketch, claim) for claim in sorted(model_least(sketch))}
            longest = sorted(told_all, key=lambda claim: -len(told_all[claim]))[:4]
            for claim in longest:
                for _ in range(6):
                    steps = self.changed(rng, sketch, told_all[claim])
                    told[self.tell(sketch, steps, claim)] += 1
        self.assertGreater(told[True], 200)
        self.assertGreater(told[False], 500)

    def changed(self, rng, sketch, steps):
        """The steps with one of them left out, put in twice, in another place, or with another part."""
        at = rng.randrange(len(steps))
        place, premises, claim = steps[at]
        kind = rng.randrange(7)
        if kind == 0:
            return steps[:at] + steps[at + 1:]
        if kind == 1:
            return steps[:at] + steps[at:at + 1] + steps[at:]
        if kind == 2:
            return rng.sample(steps, len(steps))
        if kind == 3:
            other = (place, premises, rng.choice(all_claims(sketch)))
        elif kind == 4:
            other = (rng.choice(places(sketch) + [("", 40), ("", -1), ("zz", 0)]), premises, claim)
        elif kind == 5:
            numbers = list(range(-1, len(steps) + 1))
            other = (place, [rng.choice(numbers) if rng.random() < 0.5 else number for number in premises], claim)
        else:
            other = (place, rng.choice([premises[1:], premises + [0], premises[::-1]]), claim)
        return steps[:at] + [other] + steps[at + 1:]

    def test_steps_of_all_rules(self):
        """Of each rule of drawn sketches whose premises are true, behind derivations of these."""
        many = 0
        for seed in range(25):
            sketch = linked_sketch(random.Random(seed))
            true = model_least(sketch)
            for place in places(sketch):
                for premises, conclusion in model_rules(sketch, *place):
                    if not true.issuperset(premises):
                        continue
                    steps, numbers = [], []
                    for premise in premises:
                        added = derivation(sketch, premise)
                        steps += [(where, [number + len(steps) for number in some], what)
                                  for where, some, what in added]
                        numbers.append(len(steps) - 1)
                    self.assertIs(is_derivation(sketch, steps + [(place, numbers, conclusion)], conclusion), True)
                    many += 1
        self.assertGreater(many, 300)
