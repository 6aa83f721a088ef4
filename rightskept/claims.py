"""Claims, and the rules that a statement of a sketch of right shape asks (point 20).

A claim is a tuple (name, level, letter). A rule is here a tuple of a tuple of
claims, its premises, and a claim, its conclusion. A part of the rights of a
variable is told by a pair of its name and the level from which on they are
meant. depths is a dict of the depths of the variables.
"""

from rightskept.types import LETTERS, has_letter


# In Python True equals 1: without asking for kinds, a claim of the level True
# would be taken for one of the level 1.
def is_claim(thing):
    """True if anything that is passed looks like a claim, whether it is true of any sketch or not."""
    if type(thing) is not tuple or len(thing) != 3:
        return False
    name, level, letter = thing
    return type(name) is str and type(level) is int and type(letter) is str


def is_claimed(table, claim):
    """True if a claim is true in a table; it is not, where the table has no such right."""
    name, level, letter = claim
    kind = table.get(name, ())
    return 0 <= level < len(kind) and has_letter(kind[level], letter)


def reach_rules(place):
    """The rules for a place that is to be reached."""
    name, stars = place
    return [((), (name, level, "r")) for level in range(stars)]


def use_rules(place, letter):
    """The rules for a place that is to be reached and read, or written."""
    name, stars = place
    return reach_rules(place) + [((), (name, stars, letter))]


def deeper(part):
    """The part of the rights without its first one."""
    name, level = part
    return name, level + 1


def conversion_rules(premises, one, two, length):
    """The rules for the one part to convert to the other, of this length, if the premises are true."""
    if length == 0:
        return []
    found = []
    for letter in LETTERS:
        asked = premises + (two + (letter,),)
        found.append((asked, one + (letter,)))
        source, goal = deeper(one), deeper(two)
        if letter == "w":
            source, goal = goal, source
        found.extend(conversion_rules(asked, source, goal, length - 1))
    return found


def source_rules(depths, source, goal):
    """The rules for a source to fit a part of the rights."""
    word = source[0]
    if word == "number" or word == "null":
        return []
    place = source[1]
    name, level = goal
    length = depths[name] + 1 - level
    if word == "address":
        return reach_rules(place) + conversion_rules((), place, goal, length)
    return use_rules(place, "r") + conversion_rules((), deeper(place), goal, length)


def call_rules(depths, params, sources):
    """The rules for the sources of a call to fit the parameters."""
    found = []
    for (name, _), source in zip(params, sources):
        found.extend(source_rules(depths, source, (name, 1)))
    return found


def statement_rules(functions, depths, statement):
    """The rules of a statement, as they come. functions has the Functions by their names."""
    word = statement[0]
    if word == "let":
        return source_rules(depths, statement[3], (statement[1], 1))
    if word == "put":
        place = statement[1]
        return use_rules(place, "w") + source_rules(depths, statement[2], deeper(place))
    return call_rules(depths, functions[statement[1]].params, statement[2])
