"""Breaking programs: what a conversion that is not safe leads to (point 17)."""

from rightskept.errors import RightsError
from rightskept.forms import SIGNS
from rightskept.programs import Program
from rightskept.running import run
from rightskept.types import MOST_RIGHTS, bar, behind


def breaking(one, two):
    """A breaking program for the conversion of the one value type to the other; None if there is none."""
    found = bar(one, two)
    # No thing can hold a value whose type has as many rights as a type may
    # have, so such a conversion has no use in any program.
    if found is None or len(one) >= MOST_RIGHTS:
        return None
    letters, letter = found
    pairs = pairs_along(one, two, letters)
    kept, seen = pairs[-1]
    statements = [
        ("let", "kept", kept, first_source(kept[1:])),
        holding("from", kept, ("address", ("kept", 0))),
    ]
    added, name = converting(pairs, letters, "from")
    return Program([], statements + added + [breach(letter, seen, name)])


def is_breaking(one, two, program):
    """True if the program is let by with this extra conversion alone, and its run has a breach."""
    try:
        breaches = run(program, [(one, two)])[1]
    except RightsError:
        return False
    return len(breaches) > 0


def pairs_along(one, two, letters):
    """The pairs of value types to which a list of letters leads, the pair given and the last one included."""
    pairs = [(one, two)]
    for letter in letters:
        source, goal = pairs[-1]
        pairs.append(behind(source, goal, letter))
    return pairs


def first_source(held):
    """A source that fits whatever rights a value type has."""
    if held == ():
        return ("number", 0)
    return ("null",)


# All things but the one that is to be read or written against its declaration
# may be read and written themselves: none of them has a breach.
def holding(name, held, source):
    """A let of a variable that holds values of a value type."""
    return ("let", name, ("rw",) + held, source)


def breach(letter, seen, name):
    """The statement that does what the letter tells with the thing whose address a variable holds."""
    if letter == "r":
        return holding("broken", seen[1:], ("value", (name, 1)))
    return ("put", (name, 1), first_source(seen[1:]))


# An address of a cell, converted as the pair ahead of the last one asks,
# shows what the cell holds as something else, or lets something else be put
# there: so one conversion makes that of the pairs behind it, and the first
# pair is the extra conversion.
def converting(pairs, letters, name):
    """Statements that convert what a variable holds as the last pair asks, and the variable that holds it then."""
    sign = SIGNS[len(letters)]
    source, goal = pairs[-1]
    if len(letters) == 0:
        return [holding("to" + sign, goal, ("value", (name, 0)))], "to" + sign
    cell = "cell" + sign
    lent, _ = pairs[-2]
    shown = [holding("lent" + sign, lent, ("address", (cell, 0)))]
    added, other = converting(pairs[:-1], letters[:-1], "lent" + sign)
    if letters[-1] == "r":
        made = [holding(cell, source, ("value", (name, 0)))]
        return made + shown + added + [holding("to" + sign, goal, ("value", (other, 1)))], "to" + sign
    made = [holding(cell, goal, first_source(goal))]
    return made + shown + added + [("put", (other, 1), ("value", (name, 0)))], cell
