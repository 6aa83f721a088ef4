"""Sketches: their shape, their rules and their least rights (points 18 to 21)."""

from rightskept.claims import is_claimed, statement_rules
from rightskept.errors import RightsError
from rightskept.judging import faults
from rightskept.programs import by_name, declared, with_table
from rightskept.types import LETTERS, has_letter


def depths_of(sketch):
    """A dict of the depths of all variables."""
    return dict(declared(sketch.functions, sketch.statements))


# With all rights there are no faults but those that a statement has whatever
# the rights are.
def shape_faults(sketch):
    """The tuples of the name of a function, or "", the number of a statement and its first fault of shape."""
    table = {name: ("rw",) * (depth + 1) for name, depth in depths_of(sketch).items()}
    return faults(with_table(sketch, table), [])


def demand_shape(sketch):
    """Refuses a sketch that has a fault of shape."""
    if len(shape_faults(sketch)) > 0:
        raise RightsError("no shape")


def statements_by_place(sketch):
    """A dict of all statements by their places, tuples of the name of a function, or "", and a number."""
    found = {}
    for function in sketch.functions:
        for at, statement in enumerate(function.body):
            found[(function.name, at)] = statement
    for at, statement in enumerate(sketch.statements):
        found[("", at)] = statement
    return found


def rules_of(sketch, statement):
    """The rules of a statement of a sketch of right shape, in order, each once."""
    found = statement_rules(by_name(sketch.functions), depths_of(sketch), statement)
    return sorted(set(found))


def rules(sketch, f, k):
    """The rules of the statement at a place, in order, each once; none, if there is no statement."""
    demand_shape(sketch)
    placed = statements_by_place(sketch)
    if (f, k) not in placed:
        return []
    return [(list(premises), conclusion) for premises, conclusion in rules_of(sketch, placed[(f, k)])]


def all_rules(sketch):
    """The triples of a place of a statement, premises and a conclusion, of all statements."""
    found = []
    for place, statement in statements_by_place(sketch).items():
        for premises, conclusion in rules_of(sketch, statement):
            found.append((place, premises, conclusion))
    return found


def waiting_rules(triples):
    """A dict of the lists of the numbers of the triples that have a claim among their premises, by the claim."""
    waiting = {}
    for number, (_, premises, _) in enumerate(triples):
        for claim in premises:
            waiting.setdefault(claim, []).append(number)
    return waiting


def reasons(sketch):
    """For each claim that is true in the least table a place of a statement and premises from which it follows.

    The premises of each claim stand ahead of it.
    """
    triples = all_rules(sketch)
    waiting = waiting_rules(triples)
    missing = [len(premises) for _, premises, _ in triples]
    ready = [number for number, many in enumerate(missing) if many == 0]
    told = {}
    at = 0
    while at < len(ready):
        place, premises, conclusion = triples[ready[at]]
        at += 1
        if conclusion in told:
            continue
        told[conclusion] = (place, premises)
        for number in waiting.get(conclusion, []):
            missing[number] -= 1
            if missing[number] == 0:
                ready.append(number)
    return told


def right_of(claims, name, level):
    """The right of a variable at a level that has just the letters that are claimed."""
    right = "".join([letter for letter in LETTERS if (name, level, letter) in claims])
    if right == "":
        return "-"
    return right


def least(sketch):
    """The least table."""
    demand_shape(sketch)
    claims = reasons(sketch)
    table = {}
    for name, depth in depths_of(sketch).items():
        table[name] = tuple([right_of(claims, name, level) for level in range(depth + 1)])
    return table


def claims_above(ceilings):
    """The claims that are true in no table that is under the ceilings; one may be told twice."""
    above = []
    for name, level, right in ceilings:
        above.extend([(name, level, letter) for letter in LETTERS if not has_letter(right, letter)])
    return above


def is_under(table, ceilings):
    """True if a table is under ceilings."""
    return not any([is_claimed(table, claim) for claim in claims_above(ceilings)])


def fulfils(sketch, table):
    """True if a table fulfils all rules of the statements of a sketch."""
    demand_shape(sketch)
    for _, premises, conclusion in all_rules(sketch):
        if all([is_claimed(table, claim) for claim in premises]) and not is_claimed(table, conclusion):
            return False
    return True


def barred(sketch, ceilings):
    """The claims that are true in the least table, but not under the ceilings, ascending."""
    demand_shape(sketch)
    claims = reasons(sketch)
    above = claims_above(ceilings)
    return sorted(set([claim for claim in above if claim in claims]))
