"""Rights, types and value types; conversions, bars, joins and meets (points 3 to 8)."""

from rightskept.errors import RightsError

RIGHTS = ("rw", "r", "w", "-")
LETTERS = ("r", "w")
MOST_RIGHTS = 6


# Kinds are asked exactly here (no subclasses): an object with comparisons or
# a class of its own making must not turn a question into an error.
def is_right(thing):
    """True if anything that is passed is a right."""
    return type(thing) is str and thing in RIGHTS


def is_type(thing):
    """True if anything that is passed is a tuple of 1 to 6 rights."""
    return is_value_type(thing) and len(thing) > 0


def is_value_type(thing):
    """True if anything that is passed is a tuple of 0 to 6 rights."""
    if type(thing) is not tuple or len(thing) > MOST_RIGHTS:
        return False
    return all([is_right(part) for part in thing])


def has_letter(right, letter):
    """True if this is one of the letters of a right (what is no letter is in none)."""
    return letter in LETTERS and letter in right


def within(one, two):
    """True if each letter of the first right is one of the second's."""
    for letter in LETTERS:
        if letter in one and letter not in two:
            return False
    return True


def behind(one, two, letter):
    """The pair that has to convert if the second value type has this letter first."""
    if letter == "r":
        return one[1:], two[1:]
    return two[1:], one[1:]


def converts(one, two):
    """True if the first value type converts to the second."""
    if len(one) != len(two):
        return False
    if len(one) == 0:
        return True
    if not within(two[0], one[0]):
        return False
    for letter in LETTERS:
        if letter in two[0]:
            source, goal = behind(one, two, letter)
            if not converts(source, goal):
                return False
    return True


def are_alike(one, two):
    """True if each value type converts to the other."""
    return converts(one, two) and converts(two, one)


def plain(one):
    """The value type with only "-" behind its first "-"."""
    if "-" not in one:
        return one
    first = one.index("-")
    return one[:first] + ("-",) * (len(one) - first)


def bar(one, two):
    """A pair of a list of letters and a letter that tells where converting fails, or None."""
    if len(one) != len(two) or len(one) == 0:
        return None
    for letter in LETTERS:
        if letter in two[0] and letter not in one[0]:
            return [], letter
    for letter in LETTERS:
        if letter in two[0]:
            source, goal = behind(one, two, letter)
            found = bar(source, goal)
            if found is not None:
                return [letter] + found[0], found[1]
    return None


def is_bar(one, two, letters, letter):
    """True if the list of letters and the letter are a bar between the two value types."""
    if type(letters) is not list or len(one) != len(two) or len(letters) >= len(one):
        return False
    source, goal = one, two
    for step in letters:
        if not has_letter(goal[0], step):
            return False
        source, goal = behind(source, goal, step)
    return has_letter(goal[0], letter) and not has_letter(source[0], letter)


def plain_forms(length):
    """All value types of a length in plain form, ascending."""
    if length == 0:
        return [()]
    rests = plain_forms(length - 1)
    longer = [(right,) + rest for right in ("r", "rw", "w") for rest in rests]
    return [("-",) * length] + longer


def is_least(form, forms):
    """True if no other one of these plain forms converts to this one."""
    for other in forms:
        if other != form and converts(other, form):
            return False
    return True


def is_greatest(form, forms):
    """True if this plain form converts to no other one of these."""
    for other in forms:
        if other != form and converts(form, other):
            return False
    return True


# Plain forms suffice for joins and meets: value types are alike exactly if
# their plain forms are equal, so two different plain forms never are.
def joins(one, two):
    """The least value types to which both convert, in plain form, ascending."""
    if len(one) != len(two):
        raise RightsError("other length")
    above = [form for form in plain_forms(len(one)) if converts(one, form) and converts(two, form)]
    return [form for form in above if is_least(form, above)]


def meets(one, two):
    """The greatest value types that convert to both, in plain form, ascending."""
    if len(one) != len(two):
        raise RightsError("other length")
    below = [form for form in plain_forms(len(one)) if converts(form, one) and converts(form, two)]
    return [form for form in below if is_greatest(form, below)]
