"""Derivations of claims, and the check of them (point 22)."""

from rightskept.claims import is_claim
from rightskept.sketches import demand_shape, reasons, rules_of, statements_by_place


def derivation(sketch, claim):
    """A derivation that ends with a claim; None if there is none."""
    demand_shape(sketch)
    told = reasons(sketch)
    if not is_claim(claim) or claim not in told:
        return None
    needed = needed_claims(told, claim)
    numbers = {other: at for at, other in enumerate(needed)}
    steps = []
    for other in needed:
        place, premises = told[other]
        steps.append((place, [numbers[premise] for premise in premises], other))
    return steps


def needed_claims(told, claim):
    """The claims that a derivation of a claim needs, in the order in which they are told, itself the last."""
    needed = {claim: True}
    for other in reversed(list(told)):
        if other in needed:
            _, premises = told[other]
            for premise in premises:
                needed[premise] = True
    return [other for other in told if other in needed]


def is_derivation(sketch, steps, claim):
    """True if the list of steps is a derivation whose last step has the claim."""
    demand_shape(sketch)
    if type(steps) is not list or len(steps) == 0:
        return False
    if not all([is_step(steps, at) for at in range(len(steps))]):
        return False
    if not is_claim(claim) or steps[-1][2] != claim:
        return False
    return all_follow(sketch, steps)


def is_step(steps, at):
    """True if the step with this number has the form of one, and its premises are places of earlier ones."""
    step = steps[at]
    if type(step) is not tuple or len(step) != 3:
        return False
    place, premises, claim = step
    if not is_statement_place(place) or not is_claim(claim) or type(premises) is not list:
        return False
    return all([type(number) is int and 0 <= number < at for number in premises])


def is_statement_place(thing):
    """True if anything that is passed has the form of a place of a statement."""
    return type(thing) is tuple and len(thing) == 2 and type(thing[0]) is str and type(thing[1]) is int


def all_follow(sketch, steps):
    """True if each step follows by a rule of its statement; the steps have the right form."""
    placed = statements_by_place(sketch)
    asked = {}
    for place, premises, claim in steps:
        if place not in placed:
            return False
        if place not in asked:
            asked[place] = rules_of(sketch, placed[place])
        if (tuple([steps[number][2] for number in premises]), claim) not in asked[place]:
            return False
    return True
