"""Judging places, sources, statements and programs (points 11 to 14).

A fault is told by its reason, and None tells that there is none. What is
known is a dict of the types of the variables that are known at a statement.
"""

from rightskept.programs import by_name
from rightskept.types import converts, has_letter


def place_fault(known, place):
    """The first fault of a place; None if it is reached."""
    name, stars = place
    if name not in known:
        return "unknown name"
    kind = known[name]
    if stars >= len(kind):
        return "too many stars"
    if not all([has_letter(right, "r") for right in kind[:stars]]):
        return "may not read"
    return None


def seen(known, place):
    """The type with which the thing at a place is seen, if the place is reached."""
    name, stars = place
    return known[name][stars:]


def conversion_fault(one, two, extra):
    """The first fault of what has the one value type and is to have the other."""
    if len(one) != len(two):
        return "other depth"
    if converts(one, two) or (one, two) in extra:
        return None
    return "no conversion"


def source_fault(known, source, goal, extra):
    """The first fault of a source for a value type; None if it fits."""
    word = source[0]
    if word == "number":
        return None if goal == () else "other depth"
    if word == "null":
        return None if goal != () else "other depth"
    place = source[1]
    fault = place_fault(known, place)
    if fault is not None:
        return fault
    kind = seen(known, place)
    if word == "address":
        return conversion_fault(kind, goal, extra)
    if not has_letter(kind[0], "r"):
        return "may not read"
    return conversion_fault(kind[1:], goal, extra)


def put_fault(known, place, source, extra):
    """The first fault of a put."""
    fault = place_fault(known, place)
    if fault is not None:
        return fault
    kind = seen(known, place)
    if not has_letter(kind[0], "w"):
        return "may not write"
    return source_fault(known, source, kind[1:], extra)


def call_fault(known, params, sources, extra):
    """The first fault of a call of a function with these parameters."""
    for (_, kind), source in zip(params, sources):
        fault = source_fault(known, source, kind[1:], extra)
        if fault is not None:
            return fault
    return None


def statement_fault(functions, known, statement, extra):
    """The first fault of a statement; None if it is let by. functions has the Functions by their names."""
    word = statement[0]
    if word == "let":
        return source_fault(known, statement[3], statement[2][1:], extra)
    if word == "put":
        return put_fault(known, statement[1], statement[2], extra)
    return call_fault(known, functions[statement[1]].params, statement[2], extra)


def block_faults(functions, params, statements, extra):
    """The pairs of a number of a statement and its first fault, of statements that know these parameters."""
    known = dict(params)
    found = []
    for at, statement in enumerate(statements):
        fault = statement_fault(functions, known, statement, extra)
        if fault is not None:
            found.append((at, fault))
        if statement[0] == "let":
            known[statement[1]] = statement[2]
    return found


def faults(program, extra):
    """The tuples of the name of a function, or "", the number of a statement and its first fault."""
    functions = by_name(program.functions)
    found = []
    for function in program.functions:
        for at, fault in block_faults(functions, function.params, function.body, extra):
            found.append((function.name, at, fault))
    for at, fault in block_faults(functions, [], program.statements, extra):
        found.append(("", at, fault))
    return found


def is_let_by(program, extra):
    """True if all statements are let by, those of bodies too."""
    return len(faults(program, extra)) == 0
