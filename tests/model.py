"""Points 11 to 16 once more, worked out another way: what drawn programs are compared with."""
from functools import lru_cache

from tables import goes, letters_of

goes = lru_cache(maxsize=None)(goes)


def place_type(known, place):
    """The type with which a place is seen, or the fault of the place as a string."""
    name, stars = place
    if name not in known:
        return "unknown name"
    rest = list(known[name])
    if stars > len(rest) - 1:
        return "too many stars"
    for _ in range(stars):
        if "r" not in letters_of(rest.pop(0)):
            return "may not read"
    return tuple(rest)


def source_reason(known, source, goal, extra):
    if source[0] in ("number", "null"):
        return "" if (source[0] == "number") == (len(goal) == 0) else "other depth"
    had = place_type(known, source[1])
    if isinstance(had, str):
        return had
    if source[0] == "value":
        if "r" not in letters_of(had[0]):
            return "may not read"
        had = had[1:]
    if len(had) != len(goal):
        return "other depth"
    return "" if goes(had, goal) or [had, goal] in [list(pair) for pair in extra] else "no conversion"


def statement_reason(functions, known, statement, extra):
    if statement[0] == "let":
        return source_reason(known, statement[3], statement[2][1:], extra)
    if statement[0] == "call":
        params = [f.params for f in functions if f.name == statement[1]][0]
        reasons = [source_reason(known, source, kind[1:], extra) for (_, kind), source in zip(params, statement[2])]
        return ([reason for reason in reasons if reason] + [""])[0]
    had = place_type(known, statement[1])
    if isinstance(had, str):
        return had
    if "w" not in letters_of(had[0]):
        return "may not write"
    return source_reason(known, statement[2], had[1:], extra)


def model_faults(program, extra):
    blocks = [(f.name, list(f.params), f.body) for f in program.functions] + [("", [], program.statements)]
    told = []
    for block, params, statements in blocks:
        for at, statement in enumerate(statements):
            known = dict(params + [other[1:3] for other in statements[:at] if other[0] == "let"])
            reason = statement_reason(program.functions, known, statement, extra)
            if reason:
                told.append((block, at, reason))
    return told


class Cell:
    def __init__(self, name, kind, worth, number):
        self.name, self.kind, self.worth, self.number = name, kind, worth, number


class Stop(Exception):
    pass


class Model:
    """Runs a program with cells that hold one another, and a stack of the blocks that are being executed."""

    def __init__(self, program):
        self.functions = {f.name: f for f in program.functions}
        self.cells = []
        self.told = []
        self.many = 0
        self.stack = [({}, iter(program.statements))]

    def touch(self, letter, cell):
        if letter not in letters_of(cell.kind[0]):
            self.told.append((letter, cell.number))

    def take(self, cell):
        self.touch("r", cell)
        return cell.worth

    def cell(self, scope, place):
        at = scope[place[0]]
        for _ in range(place[1]):
            at = self.take(at)
            if at is None:
                raise Stop()
        return at

    def worth(self, scope, source):
        if source[0] == "number":
            return source[1]
        if source[0] == "null":
            return None
        at = self.cell(scope, source[1])
        return at if source[0] == "address" else self.take(at)

    def made(self, name, kind, worth):
        self.cells.append(Cell(name, kind, worth, len(self.cells)))
        return self.cells[-1]

    def step(self, scope, statement):
        if statement[0] == "let":
            scope[statement[1]] = self.made(statement[1], statement[2], self.worth(scope, statement[3]))
        elif statement[0] == "put":
            at = self.cell(scope, statement[1])
            worth = self.worth(scope, statement[2])
            self.touch("w", at)
            at.worth = worth
        else:
            function = self.functions[statement[1]]
            worths = [self.worth(scope, source) for source in statement[2]]
            inner = {name: self.made(name, kind, worth) for (name, kind), worth in zip(function.params, worths)}
            self.stack.append((inner, iter(function.body)))

    def told_things(self):
        return [(cell.name, cell.kind, ("thing", cell.worth.number) if isinstance(cell.worth, Cell) else cell.worth)
                for cell in self.cells]

    def run(self):
        while self.stack:
            scope, statements = self.stack[-1]
            statement = next(statements, None)
            if statement is None:
                self.stack.pop()
                continue
            self.many += 1
            try:
                self.step(scope, statement)
            except Stop:
                return "stopped", self.told, self.told_things()
        return "done", self.told, self.told_things()


def model_run(program):
    """What run has to return, or the string of the reason with which it refuses a program that is let by."""
    model = Model(program)
    ended = model.run()
    return "too long" if model.many > 1000 else ended
