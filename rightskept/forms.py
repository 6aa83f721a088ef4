"""How names, places, sources and statements have to look, each by itself (point 9)."""

from rightskept.types import is_type

SIGNS = "abcdefghijklmnopqrstuvwxyz"
MOST_SIGNS = 8
MOST_STARS = 5
MOST_DEPTH = 5
MOST_NUMBER = 1000


def is_number(thing, most):
    """True if anything that is passed is a number of at most this size; bools are none."""
    return type(thing) is int and 0 <= thing <= most


def is_name(thing):
    """True if anything that is passed is a name."""
    if type(thing) is not str or thing == "null" or not 1 <= len(thing) <= MOST_SIGNS:
        return False
    return all([sign in SIGNS for sign in thing])


def is_depth(thing):
    """True if anything that is passed can stand in a sketch in the place of a type."""
    return is_number(thing, MOST_DEPTH)


def is_place(thing):
    """True if anything that is passed is a place."""
    if type(thing) is not tuple or len(thing) != 2:
        return False
    return is_name(thing[0]) and is_number(thing[1], MOST_STARS)


def first_word(thing):
    """The string with which a tuple begins; "" for anything else."""
    if type(thing) is not tuple or len(thing) == 0:
        return ""
    word = thing[0]
    if type(word) is not str:
        return ""
    return word


def is_source(thing):
    """True if anything that is passed is a source."""
    word = first_word(thing)
    if word == "null":
        return len(thing) == 1
    if word == "number":
        return len(thing) == 2 and is_number(thing[1], MOST_NUMBER)
    return word in ("value", "address") and len(thing) == 2 and is_place(thing[1])


def is_source_list(thing):
    """True if anything that is passed is a list of sources."""
    return type(thing) is list and all([is_source(part) for part in thing])


def is_declared(thing):
    """True for a pair of a name and what is declared of it, a type or a depth."""
    if type(thing) is not tuple or len(thing) != 2:
        return False
    return is_name(thing[0]) and (is_type(thing[1]) or is_depth(thing[1]))


def is_statement(thing):
    """True if anything that is passed is a statement, of a program or of a sketch."""
    word = first_word(thing)
    if word == "let":
        return len(thing) == 4 and is_declared(thing[1:3]) and is_source(thing[3])
    if word == "put":
        return len(thing) == 3 and is_place(thing[1]) and is_source(thing[2])
    return word == "call" and len(thing) == 3 and is_name(thing[1]) and is_source_list(thing[2])
