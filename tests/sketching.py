"""Points 18 to 22 once more, worked out another way, and sketches to try them with."""
from itertools import product

from drawing import Drawer
from tables import letters_of, value_types

from rightskept.programs import Function, Program


def sketch_of(program):
    """The sketch that a program with types is one of."""
    def bare(statements):
        return [("let", s[1], len(s[2]) - 1, s[3]) if s[0] == "let" else s for s in statements]

    functions = [Function(f.name, [(name, len(kind) - 1) for name, kind in f.params], bare(f.body))
                 for f in program.functions]
    return Program(functions, bare(program.statements))


def drawn_sketch(rng, fitting=True, deepest=3):
    """Fitting: a sketch of right shape."""
    return sketch_of(Drawer(rng, [], fitting, deepest).program())


def small_sketch(rng, most):
    """A drawn sketch of right shape, with at least one variable, and at most so many rights in all."""
    while True:
        sketch = drawn_sketch(rng, True, 2)
        if 0 < sum(depth + 1 for depth in depths(sketch).values()) <= most:
            return sketch


class Linker:
    """Draws sketches of right shape in which most variables hold addresses of one another, so that claims
    follow from claims far behind."""

    def __init__(self, rng, deepest):
        self.rng, self.deepest, self.many = rng, deepest, 0

    def name(self):
        self.many += 1
        return "x" + "abcdefghijklmnopqrstuvwxyz"[self.many // 26] + "abcdefghijklmnopqrstuvwxyz"[self.many % 26]

    def source(self, known, wanted):
        """A source of so many rights; an address or a value, if there is one."""
        found = [("value", (name, depth - wanted)) for name, depth in known.items() if 0 <= depth - wanted <= 5]
        found += [("address", (name, depth + 1 - wanted)) for name, depth in known.items()
                  if wanted > 0 and 0 <= depth + 1 - wanted <= 5]
        if not found or self.rng.random() < 0.1:
            return ("number", 7) if wanted == 0 else ("null",)
        return self.rng.choice(found[-12:])

    def block(self, params, functions, many):
        known, statements = dict(params), []
        for _ in range(many):
            word = self.rng.choice(("let", "let", "put", "call"))
            if word == "call" and functions:
                function = self.rng.choice(functions)
                sources = [self.source(known, depth) for _, depth in function.params]
                statements.append(("call", function.name, sources))
            elif word == "put" and known:
                name = self.rng.choice(list(known))
                stars = self.rng.randint(0, known[name])
                statements.append(("put", (name, stars), self.source(known, known[name] - stars)))
            else:
                name, depth = self.name(), self.rng.randint(0, self.deepest)
                statements.append(("let", name, depth, self.source(known, depth)))
                known[name] = depth
        return statements

    def sketch(self):
        functions = []
        for _ in range(self.rng.randint(0, 3)):
            params = [(self.name(), self.rng.randint(0, self.deepest)) for _ in range(self.rng.randint(1, 3))]
            functions.append(Function(self.name(), params, self.block(params, functions, self.rng.randint(1, 6))))
        return Program(functions, self.block([], functions, self.rng.randint(5, 25)))


def linked_sketch(rng, deepest=3):
    return Linker(rng, deepest).sketch()


def blocks(sketch):
    return [(f.name, list(f.params), f.body) for f in sketch.functions] + [("", [], sketch.statements)]


def places(sketch):
    """The places of all statements."""
    return [(name, at) for name, _, statements in blocks(sketch) for at in range(len(statements))]


def statement_of(sketch, place):
    return [statements[place[1]] for name, _, statements in blocks(sketch) if name == place[0]][0]


def depths(sketch):
    found = {}
    for _, params, statements in blocks(sketch):
        found.update(params + [s[1:3] for s in statements if s[0] == "let"])
    return found


def all_claims(sketch):
    return [(name, level, letter) for name, depth in depths(sketch).items() for level in range(depth + 1)
            for letter in "rw"]


def all_tables(sketch):
    kinds = depths(sketch)
    for row in product(*[value_types(depth + 1) for depth in kinds.values()]):
        yield dict(zip(kinds, row))


def full_table(sketch):
    return {name: ("rw",) * (depth + 1) for name, depth in depths(sketch).items()}


def drawn_table(rng, sketch, rights=("rw", "r", "w", "-")):
    return {name: tuple(rng.choice(rights) for _ in range(depth + 1)) for name, depth in depths(sketch).items()}


def true_in(table, claim):
    name, level, letter = claim
    return letter in letters_of(table[name][level])


def is_within(one, two):
    """True if each right of the one table is within that of the other."""
    return all(letters_of(mine) <= letters_of(other)
               for name in two for mine, other in zip(one[name], two[name], strict=True))


def intersection(tables):
    """The table that has just the letters that all of these tables have."""
    out = {}
    for name in tables[0]:
        letters = [set.intersection(*[letters_of(right) for right in rights])
                   for rights in zip(*[table[name] for table in tables])]
        out[name] = tuple("".join(sorted(part)) or "-" for part in letters)
    return out


# Shapes

def place_shape(known, place):
    """The depth of the thing at a place, or a reason."""
    if place[0] not in known:
        return "unknown name"
    depth = known[place[0]] - place[1]
    return "too many stars" if depth < 0 else depth


def source_shape(known, source, wanted):
    """The reason, "" if there is none; wanted is the number of rights of the value."""
    if source[0] == "number":
        had = 0
    elif source[0] == "null":
        return "" if wanted > 0 else "other depth"
    else:
        had = place_shape(known, source[1])
        if isinstance(had, str):
            return had
        if source[0] == "address":
            had += 1
    return "" if had == wanted else "other depth"


def statement_shape(sketch, known, statement):
    if statement[0] == "let":
        return source_shape(known, statement[3], statement[2])
    if statement[0] == "put":
        depth = place_shape(known, statement[1])
        return depth if isinstance(depth, str) else source_shape(known, statement[2], depth)
    params = [f.params for f in sketch.functions if f.name == statement[1]][0]
    for (_, depth), source in zip(params, statement[2]):
        reason = source_shape(known, source, depth)
        if reason:
            return reason
    return ""


def model_shape(sketch):
    told = []
    for name, params, statements in blocks(sketch):
        known = dict(params)
        for at, statement in enumerate(statements):
            reason = statement_shape(sketch, known, statement)
            if reason:
                told.append((name, at, reason))
            known.update([statement[1:3]] if statement[0] == "let" else [])
    return told


# Rules

def part(sketch, name, level):
    """The rights of a variable from a level on, each as a pair of the name and its level."""
    return tuple((name, at) for at in range(level, depths(sketch)[name] + 1))


def model_conversion(one, two):
    """The rules of point 20 for one part to convert to another, list of letters by list of letters."""
    assert len(one) == len(two)
    told = []
    for many in range(len(two)):
        for letters in product("rw", repeat=many):
            a, b, premises = one, two, []
            for letter in letters:
                premises.append(b[0] + (letter,))
                a, b = (a[1:], b[1:]) if letter == "r" else (b[1:], a[1:])
            told += [(premises + [b[0] + (last,)], a[0] + (last,)) for last in "rw"]
    return told


def model_place(place, last=None):
    told = [([], (place[0], at, "r")) for at in range(place[1])]
    return told + ([([], place + (last,))] if last else [])


def model_source(sketch, source, goal):
    if source[0] == "value":
        name, stars = source[1]
        return model_place(source[1], "r") + model_conversion(part(sketch, name, stars + 1), goal)
    if source[0] == "address":
        return model_place(source[1]) + model_conversion(part(sketch, *source[1]), goal)
    return []


def model_rules(sketch, f, k):
    statement = statement_of(sketch, (f, k))
    if statement[0] == "let":
        told = model_source(sketch, statement[3], part(sketch, statement[1], 1))
    elif statement[0] == "put":
        name, stars = statement[1]
        told = model_place(statement[1], "w") + model_source(sketch, statement[2], part(sketch, name, stars + 1))
    else:
        params = [function.params for function in sketch.functions if function.name == statement[1]][0]
        told = []
        for (name, _), source in zip(params, statement[2], strict=True):
            told += model_source(sketch, source, part(sketch, name, 1))
    once = {(tuple(premises), conclusion) for premises, conclusion in told}
    return [(list(premises), conclusion) for premises, conclusion in sorted(once)]


def model_least(sketch):
    """The claims that follow, found by trying all rules again and again."""
    told = [rule for place in places(sketch) for rule in model_rules(sketch, *place)]
    true = set()
    while True:
        more = {conclusion for premises, conclusion in told if true.issuperset(premises)}
        if more == true:
            return true
        true = more


def model_follows(sketch, steps, claim):
    """Point 22, for steps of the right form."""
    for at, (place, premises, conclusion) in enumerate(steps):
        if place not in places(sketch) or not all(0 <= number < at for number in premises):
            return False
        if ([steps[number][2] for number in premises], conclusion) not in model_rules(sketch, *place):
            return False
    return bool(steps) and steps[-1][2] == claim
