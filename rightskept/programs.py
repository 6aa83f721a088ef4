"""Functions and programs, those of sketches included (points 9, 10 and 18)."""

from rightskept.errors import RightsError
from rightskept.forms import is_declared, is_depth, is_name, is_statement
from rightskept.types import is_type

MOST_FUNCTIONS = 4
MOST_PARAMS = 4
MOST_IN_BODY = 12
MOST_STATEMENTS = 40


class Function:
    """A function. Program, not Function, refuses what is none."""

    def __init__(self, name, params, body):
        self.name = name
        self.params = copied(params)
        self.body = copied_statements(body)


class Program:
    """A program, or a sketch, if its types are all numbers."""

    def __init__(self, functions, statements):
        self.functions = copied_functions(functions)
        self.statements = copied_statements(statements)
        if not is_program(self.functions, self.statements):
            raise RightsError("no program")


def copied(thing):
    """A copy of a list; anything else as it is."""
    if type(thing) is list:
        return list(thing)
    return thing


# The sources of a call are the only list within a right statement; all else
# in it cannot change.
def copied_statement(statement):
    """A statement that shares no list with the one that is passed."""
    if type(statement) is not tuple:
        return statement
    return tuple([copied(part) for part in statement])


def copied_statements(statements):
    """Statements that share no list with those that are passed."""
    if type(statements) is not list:
        return statements
    return [copied_statement(statement) for statement in statements]


def copied_function(function):
    """A Function of one's own; what is no Function, as it is."""
    if not isinstance(function, Function):
        return function
    return Function(function.name, function.params, function.body)


def copied_functions(functions):
    """Functions that share nothing that can change with those that are passed."""
    if type(functions) is not list:
        return functions
    return [copied_function(function) for function in functions]


def is_program(functions, statements):
    """True if these are the parts of a program; they may be anything."""
    if type(functions) is not list or len(functions) > MOST_FUNCTIONS:
        return False
    if not all([is_function(function) for function in functions]):
        return False
    if not are_statements(statements, MOST_STATEMENTS):
        return False
    return (are_different(all_names(functions, statements))
            and are_of_one_kind(all_kinds(functions, statements))
            and all_calls_fit(functions, statements))


def is_function(thing):
    """True if anything that is passed is a function, seen by itself."""
    if not isinstance(thing, Function) or not is_name(thing.name):
        return False
    if type(thing.params) is not list or len(thing.params) > MOST_PARAMS:
        return False
    if not all([is_declared(param) for param in thing.params]):
        return False
    return are_statements(thing.body, MOST_IN_BODY)


def are_statements(thing, most):
    """True if anything that is passed is a list of so many statements, or less."""
    if type(thing) is not list or len(thing) > most:
        return False
    return all([is_statement(part) for part in thing])


def declared(functions, statements):
    """The pairs of a name and its type or depth, in the order of variables."""
    pairs = []
    for function in functions:
        pairs.extend(function.params)
        pairs.extend(declared_by_lets(function.body))
    pairs.extend(declared_by_lets(statements))
    return pairs


def declared_by_lets(statements):
    """The pairs of a name and its type or depth that these statements declare."""
    return [statement[1:3] for statement in statements if statement[0] == "let"]


def all_names(functions, statements):
    """The names of functions, parameters and variables."""
    names = [function.name for function in functions]
    return names + [name for name, _ in declared(functions, statements)]


def all_kinds(functions, statements):
    """The types or depths of parameters and variables."""
    return [kind for _, kind in declared(functions, statements)]


def are_different(names):
    """True if no name is had twice."""
    return len(set(names)) == len(names)


def are_of_one_kind(kinds):
    """True if these are all types, or all depths."""
    return all([is_type(kind) for kind in kinds]) or all([is_depth(kind) for kind in kinds])


def all_calls_fit(functions, statements):
    """True if each call calls a function that may be called there, with as many sources as it has parameters."""
    many = {}
    for function in functions:
        if not calls_fit(function.body, many):
            return False
        many[function.name] = len(function.params)
    return calls_fit(statements, many)


def calls_fit(statements, many):
    """The same, for statements that may call just the functions whose numbers of parameters are told."""
    for statement in statements:
        if statement[0] == "call" and many.get(statement[1]) != len(statement[2]):
            return False
    return True


def by_name(functions):
    """A dict of Functions by their names."""
    return {function.name: function for function in functions}


def is_sketch(program):
    """True if there are types and all of them are numbers."""
    kinds = all_kinds(program.functions, program.statements)
    return len(kinds) > 0 and all([is_depth(kind) for kind in kinds])


def variables(program):
    """The names of all parameters and variables."""
    return [name for name, _ in declared(program.functions, program.statements)]


def with_table(sketch, table):
    """The program that a sketch becomes by a table of types."""
    functions = []
    for function in sketch.functions:
        params = [(name, table.get(name)) for name, _ in function.params]
        functions.append(Function(function.name, params, with_types(function.body, table)))
    return Program(functions, with_types(sketch.statements, table))


def with_types(statements, table):
    """The statements with the types of a table in the place of depths."""
    typed = []
    for statement in statements:
        if statement[0] == "let":
            typed.append(("let", statement[1], table.get(statement[1]), statement[3]))
        else:
            typed.append(statement)
    return typed
