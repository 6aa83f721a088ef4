"""Running programs that are let by (points 15 and 16).

A scope is a dict of the numbers of the things that are the variables known
at a statement; functions has the Functions by their names.
"""

from rightskept.errors import RightsError
from rightskept.judging import is_let_by
from rightskept.programs import by_name
from rightskept.states import State


class NullFollowed(Exception):
    """Null is to be followed. Who executes a statement catches it: it is no error to a caller."""


def thing_at(state, scope, place):
    """The number of the thing at a place."""
    name, stars = place
    number = scope[name]
    for _ in range(stars):
        value = state.read(number)
        if value is None:
            raise NullFollowed()
        number = value[1]
    return number


def looked_up(state, scope, source):
    """The value of a source."""
    word = source[0]
    if word == "number":
        return source[1]
    if word == "null":
        return None
    number = thing_at(state, scope, source[1])
    if word == "address":
        return ("thing", number)
    return state.read(number)


def call(state, functions, scope, statement):
    """Calls a function, in a scope of its own."""
    _, name, sources = statement
    function = functions[name]
    values = [looked_up(state, scope, source) for source in sources]
    inner = {}
    for (param, kind), value in zip(function.params, values):
        inner[param] = state.make(param, kind, value)
    execute_all(state, functions, inner, function.body)


def execute(state, functions, scope, statement):
    """Executes a statement; a let adds its variable to the scope."""
    state.begin()
    word = statement[0]
    if word == "let":
        _, name, kind, source = statement
        value = looked_up(state, scope, source)
        scope[name] = state.make(name, kind, value)
    elif word == "put":
        _, place, source = statement
        number = thing_at(state, scope, place)
        value = looked_up(state, scope, source)
        state.write(number, value)
    else:
        call(state, functions, scope, statement)


def execute_all(state, functions, scope, statements):
    """Executes statements in their order."""
    for statement in statements:
        execute(state, functions, scope, statement)


def run(program, extra):
    """How the run of a program ends, its breaches and its things."""
    if not is_let_by(program, extra):
        raise RightsError("not let by")
    state = State()
    ended = "done"
    try:
        execute_all(state, by_name(program.functions), state.scope, program.statements)
    except NullFollowed:
        ended = "stopped"
    return ended, state.broken, state.made
