"""Texts of programs and sketches, written and read.

What reads a part of a line returns None if it is none. It takes parts that
stand in right lines of no program, too: Program refuses these.
"""

from rightskept.errors import TextError
from rightskept.forms import SIGNS
from rightskept.programs import Function, Program, is_program
from rightskept.types import RIGHTS

DIGITS = "0123456789"
MOST_DIGITS = 9


def text_of(program):
    """The text of a program or sketch."""
    lines = []
    for function in program.functions:
        params = ", ".join([declared_text(name, kind) for name, kind in function.params])
        lines.append(f"def {function.name}({params})")
        lines.extend(["  " + statement_text(statement) for statement in function.body])
        lines.append("end")
    lines.extend([statement_text(statement) for statement in program.statements])
    return "".join([line + "\n" for line in lines])


def declared_text(name, kind):
    """The text of a name and its type or depth."""
    if type(kind) is tuple:
        return f"{name} : " + " ".join(kind)
    return f"{name} : {kind}"


def place_text(place):
    """The text of a place."""
    name, stars = place
    return "*" * stars + name


def source_text(source):
    """The text of a source."""
    word = source[0]
    if word == "null":
        return word
    if word == "number":
        return str(source[1])
    if word == "address":
        return "&" + place_text(source[1])
    return place_text(source[1])


def statement_text(statement):
    """The text of a statement, without blanks in front and a line feed."""
    word = statement[0]
    if word == "let":
        _, name, kind, source = statement
        return f"let {declared_text(name, kind)} = {source_text(source)}"
    if word == "put":
        return f"put {place_text(statement[1])} = {source_text(statement[2])}"
    sources = ", ".join([source_text(source) for source in statement[2]])
    return f"call {statement[1]}({sources})"


def consists_of(text, signs):
    """True if there are signs in a text, and only these."""
    return len(text) > 0 and all([sign in signs for sign in text])


def name_read(text):
    """The name in a text: letters, however many, null included."""
    if consists_of(text, SIGNS):
        return text
    return None


def number_read(text):
    """The number in a text; another one beyond all bounds for one that is far beyond them."""
    if not consists_of(text, DIGITS) or (text[0] == "0" and len(text) > 1):
        return None
    # Python itself refuses to read numbers of some thousands of digits.
    return int(text[:MOST_DIGITS])


def kind_read(text):
    """The type or the depth in a text."""
    words = text.split(" ")
    if all([word in RIGHTS for word in words]):
        return tuple(words)
    return number_read(text)


def declared_read(text):
    """The pair of a name and its type or depth in a text."""
    head, _, tail = text.partition(" : ")
    name = name_read(head)
    kind = kind_read(tail)
    if name is None or kind is None:
        return None
    return name, kind


def place_read(text):
    """The place in a text."""
    head = text.lstrip("*")
    name = name_read(head)
    if name is None:
        return None
    return name, len(text) - len(head)


def source_read(text):
    """The source in a text."""
    if text == "null":
        return ("null",)
    number = number_read(text)
    if number is not None:
        return ("number", number)
    word = "value"
    if text.startswith("&"):
        word = "address"
        text = text[1:]
    place = place_read(text)
    if place is None:
        return None
    return word, place


def called_read(text):
    """The pair of a name and the list of the texts between the parentheses behind it."""
    head, _, tail = text.partition("(")
    name = name_read(head)
    if name is None or not tail.endswith(")"):
        return None
    inner = tail[:-1]
    if inner == "":
        return name, []
    return name, inner.split(", ")


def head_read(line):
    """The pair of a name and the parameters in the first line of a function."""
    if not line.startswith("def "):
        return None
    called = called_read(line[4:])
    if called is None:
        return None
    name, parts = called
    params = [declared_read(part) for part in parts]
    if None in params:
        return None
    return name, params


def let_read(text):
    """The let in a text, without its word."""
    head, _, tail = text.partition(" = ")
    pair = declared_read(head)
    source = source_read(tail)
    if pair is None or source is None:
        return None
    return ("let",) + pair + (source,)


def put_read(text):
    """The put in a text, without its word."""
    head, _, tail = text.partition(" = ")
    place = place_read(head)
    source = source_read(tail)
    if place is None or source is None:
        return None
    return "put", place, source


def call_read(text):
    """The call in a text, without its word."""
    called = called_read(text)
    if called is None:
        return None
    name, parts = called
    sources = [source_read(part) for part in parts]
    if None in sources:
        return None
    return "call", name, sources


def statement_read(line):
    """The statement in a line."""
    word, _, text = line.partition(" ")
    if word == "let":
        return let_read(text)
    if word == "put":
        return put_read(text)
    if word == "call":
        return call_read(text)
    return None


class Reader:
    """What the lines of a text have told so far; head is that of a function whose end is to come, or None."""

    def __init__(self):
        self.functions = []
        self.statements = []
        self.head = None
        self.body = []

    def takes(self, line):
        """Takes the next line; False if it is none in its place."""
        if self.head is not None:
            return self._takes_in_function(line)
        if len(self.statements) == 0 and self._takes_head(line):
            return True
        return takes_statement(self.statements, line)

    def _takes_head(self, line):
        """Takes the first line of a function."""
        self.head = head_read(line)
        self.body = []
        return self.head is not None

    def _takes_in_function(self, line):
        """Takes a line behind the first one of a function."""
        if line == "end":
            name, params = self.head
            self.functions.append(Function(name, params, self.body))
            self.head = None
            return True
        return line.startswith("  ") and takes_statement(self.body, line[2:])


def takes_statement(statements, line):
    """Adds the statement in a line to a list; False if there is none."""
    statement = statement_read(line)
    if statement is None:
        return False
    statements.append(statement)
    return True


def read_program(text):
    """The program or sketch that has a text."""
    # Only a line feed ends a line, so splitlines would take other signs for ends.
    lines = text.split("\n")
    feeds = len(lines) - 1
    rest = lines.pop()
    if rest != "":
        lines.append(rest)
    reader = Reader()
    for at, line in enumerate(lines):
        if not reader.takes(line):
            raise TextError(at, "unexpected")
    if rest != "" or reader.head is not None:
        raise TextError(feeds, "too short")
    if not is_program(reader.functions, reader.statements):
        raise TextError(feeds, "no program")
    return Program(reader.functions, reader.statements)
