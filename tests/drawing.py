"""Draws programs: such that are let by, and such as may have any faults."""
from model import place_type, source_reason
from tables import RIGHTS, letters_of

from rightskept.programs import Function, Program

SIGNS = "abcdefghijklmnopqrstuvwxyz"


class Drawer:
    """Draws with a random.Random; fitting: only statements that are let by with the extra conversions."""

    def __init__(self, rng, extra, fitting=True, deepest=3):
        self.rng, self.extra, self.fitting, self.deepest = rng, extra, fitting, deepest
        self.many = 0

    def name(self):
        self.many += 1
        return SIGNS[self.many // 26] + SIGNS[self.many % 26]

    def first(self):
        return self.rng.choice(("rw", "rw", "rw") + RIGHTS)

    def kind(self):
        """A type: often one that the extra conversions lead from or to."""
        if self.extra and self.rng.random() < 0.6:
            one, two = self.rng.choice(self.extra)
            return self.rng.choice([kind for kind in (one, (self.first(),) + one, (self.first(),) + two) if kind])
        return tuple(self.first() for _ in range(self.rng.randint(1, self.deepest + 1)))

    def places(self, known):
        return [(name, stars) for name in known for stars in range(min(6, len(known[name]) + (not self.fitting)))]

    def place(self, known):
        if self.fitting or self.rng.random() < 0.9:
            return self.rng.choice(self.places(known) or [("zz", 0)])
        return (self.rng.choice(["zz", "za"]), self.rng.randint(0, 2))

    def source(self, known, goal):
        sources = [(word, place) for word in ("value", "address") for place in self.places(known)]
        bare = ("number", self.rng.randint(0, 1000)) if goal == () else ("null",)
        if not self.fitting and self.rng.random() < 0.4:
            return self.rng.choice(sources + [bare, ("null",), ("number", 3), ("value", ("zz", 1))])
        sources = [source for source in sources if source_reason(known, source, goal, self.extra) == ""]
        if not sources or self.rng.random() < 0.05:
            return bare
        return self.rng.choice(sources)

    def let(self, known):
        """Often an address of what there is, or the value of it."""
        kind = self.kind()
        if known and self.rng.random() < 0.5:
            had = place_type(known, self.place(known))
            if not isinstance(had, str) and len(had) < 6:
                kind = (self.first(),) + had
        source = self.source(known, kind[1:])
        if source == ("null",) and self.rng.random() < 0.7:
            kind, source = kind[:1], ("number", self.rng.randint(0, 1000))
        return ("let", self.name(), kind, source)

    def put(self, known):
        place = self.place(known)
        had = place_type(known, place)
        if isinstance(had, str) or "w" not in letters_of(had[0]):
            if self.fitting:
                return None
            return ("put", place, self.source(known, self.kind()[1:]))
        return ("put", place, self.source(known, had[1:]))

    def call(self, known, functions):
        function = self.rng.choice(functions)
        return ("call", function.name, [self.source(known, kind[1:]) for _, kind in function.params])

    def statement(self, known, functions):
        """A statement, or None."""
        word = self.rng.choice(("let", "let", "put", "put", "call"))
        if word == "call" and functions:
            return self.call(known, functions)
        if word == "put" and (known or not self.fitting):
            return self.put(known)
        return self.let(known)

    def block(self, params, functions, most):
        known = dict(params)
        statements = []
        for _ in range(self.rng.randint(0, most)):
            statement = self.statement(known, functions)
            if statement is None:
                continue
            statements.append(statement)
            if statement[0] == "let":
                known[statement[1]] = statement[2]
        return statements

    def functions(self):
        functions = []
        for _ in range(self.rng.randint(0, 3)):
            params = [(self.name(), self.kind()) for _ in range(self.rng.randint(0, 3))]
            functions.append(Function(self.name(), params, self.block(params, functions, 8)))
        return functions

    def program(self):
        functions = self.functions()
        return Program(functions, self.block([], functions, 14))
