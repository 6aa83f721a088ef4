"""Machines: programs that are run statement by statement, and back."""

from rightskept.errors import RightsError
from rightskept.forms import is_name
from rightskept.judging import is_let_by, statement_fault
from rightskept.programs import Program, by_name, declared_by_lets, is_sketch
from rightskept.running import NullFollowed, execute
from rightskept.states import State


# A sketch is a Program, but what a machine runs has types.
def typed_program(functions, statements):
    """The program of these functions and statements, of types."""
    program = Program(functions, statements)
    if is_sketch(program):
        raise RightsError("no program")
    return program


class Machine:
    """Runs a program statement by statement.

    It keeps the state behind each statement that was executed, the one ahead
    of the first too, so that a statement that fails or is taken back leaves
    nothing behind.
    """

    def __init__(self, functions, extra):
        program = typed_program(functions, [])
        self._extra = list(extra)
        if not is_let_by(program, self._extra):
            raise RightsError("not let by")
        self._functions = program.functions
        self._by_name = by_name(program.functions)
        self._statements = []
        self._states = [State()]

    def do(self, statement):
        """Executes a statement as the next one: "done", or "stopped", which changes nothing."""
        program = typed_program(self._functions, self._statements + [statement])
        added = program.statements[-1]
        fault = statement_fault(self._by_name, self._known(), added, self._extra)
        if fault is not None:
            raise RightsError(fault)
        state = self._states[-1].twin()
        try:
            execute(state, self._by_name, state.scope, added)
        except NullFollowed:
            return "stopped"
        self._statements.append(added)
        self._states.append(state)
        return "done"

    def undo(self):
        """Takes back the last statement that was executed; False if there is none."""
        if len(self._statements) == 0:
            return False
        self._statements.pop()
        self._states.pop()
        return True

    def breaches(self):
        """The breaches so far."""
        return list(self._states[-1].broken)

    def things(self):
        """The things so far."""
        return list(self._states[-1].made)

    def type_of(self, name):
        """The type of a variable of the program's statements."""
        known = self._known()
        if not is_name(name) or name not in known:
            raise RightsError("unknown name")
        return known[name]

    def _known(self):
        """The types of the variables that the statements so far have made."""
        return dict(declared_by_lets(self._statements))
