"""How far a run has come (points 15 and 16)."""

from rightskept.errors import RightsError
from rightskept.types import has_letter

MOST_EXECUTED = 1000


class State:
    """The things that a run has made, its breaches, and how many statements it has executed.

    Things are tuples (name, type, value), and scope has the numbers of those
    that are variables of the program's statements.
    """

    def __init__(self):
        self.made = []
        self.broken = []
        self.executed = 0
        self.scope = {}

    def twin(self):
        """A state like this one that goes its own way."""
        other = State()
        other.made = list(self.made)
        other.broken = list(self.broken)
        other.executed = self.executed
        other.scope = dict(self.scope)
        return other

    def begin(self):
        """Counts a statement, ahead of what it does: one at which the run stops counts, too."""
        self.executed += 1
        if self.executed > MOST_EXECUTED:
            raise RightsError("too long")

    def make(self, name, kind, value):
        """Makes a thing, and returns its number."""
        self.made.append((name, kind, value))
        return len(self.made) - 1

    def read(self, number):
        """What a thing holds."""
        _, kind, value = self.made[number]
        if not has_letter(kind[0], "r"):
            self.broken.append(("r", number))
        return value

    def write(self, number, value):
        """Lets a thing hold another value."""
        name, kind, _ = self.made[number]
        if not has_letter(kind[0], "w"):
            self.broken.append(("w", number))
        self.made[number] = (name, kind, value)
