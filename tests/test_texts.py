import copy
import random
import re
import unittest

from rightskept.breaking import breaking
from rightskept.errors import RightsError, TextError
from rightskept.programs import Function, Program, is_sketch
from rightskept.texts import read_program, text_of
from drawing import Drawer
from sketching import drawn_sketch, linked_sketch

NUMBER = ("number", 7)
NULL = ("null",)

# The lines as the document writes them.
NAME = "[a-z]+"
NUMERAL = "(?:0|[1-9][0-9]*)"
PLACE = rf"\**{NAME}"
SOURCE = f"(?:{NUMERAL}|&?{PLACE})"
KIND = f"(?:{NUMERAL}|(?:rw|r|w|-)(?: (?:rw|r|w|-))*)"
PARAM = f"{NAME} : {KIND}"
HEAD = re.compile(rf"def {NAME}\((?:{PARAM}(?:, {PARAM})*)?\)")
STATEMENT = re.compile(rf"let {PARAM} = {SOURCE}|put {PLACE} = {SOURCE}|call {NAME}\((?:{SOURCE}(?:, {SOURCE})*)?\)")

TEXT = """\
def keep(to : r w, n : r)
  put *to = n
  let x : rw rw - = &to
end
def none()
end
let a : rw = 0
let b : - = 1000
let c : rw rw rw rw rw rw = null
call keep(&a, 8)
call none()
call keep(null, *****c)
put *****c = ****c
let d : w r = &a
put d = &*d
"""

PROGRAM = ([Function("keep", [("to", ("r", "w")), ("n", ("r",))],
                     [("put", ("to", 1), ("value", ("n", 0))),
                      ("let", "x", ("rw", "rw", "-"), ("address", ("to", 0)))]),
            Function("none", [], [])],
           [("let", "a", ("rw",), ("number", 0)), ("let", "b", ("-",), ("number", 1000)),
            ("let", "c", ("rw",) * 6, NULL),
            ("call", "keep", [("address", ("a", 0)), ("number", 8)]), ("call", "none", []),
            ("call", "keep", [NULL, ("value", ("c", 5))]), ("put", ("c", 5), ("value", ("c", 4))),
            ("let", "d", ("w", "r"), ("address", ("a", 0))), ("put", ("d", 0), ("address", ("d", 1)))])

SKETCH = re.sub(r" : ([rw -]*)(?=[,)]| =)", lambda found: " : " + str(len(found[1].split()) - 1), TEXT)


def parts(program):
    return [(f.name, f.params, f.body) for f in program.functions], program.statements


def told_of(text):
    """The program of a text, or the pair of the line and the reason of the error."""
    try:
        return read_program(text)
    except TextError as error:
        return error.line, error.reason


def model_fault(text):
    """The line and the reason of "unexpected" and "too short", or None, by the patterns above."""
    lines = text.split("\n")
    inside = begun = False
    for at, line in enumerate(lines if lines[-1] else lines[:-1]):
        if inside:
            right = line == "end" or (line[:2] == "  " and STATEMENT.fullmatch(line[2:]))
            inside = line != "end"
        else:
            inside = not begun and HEAD.fullmatch(line) is not None
            right = inside or STATEMENT.fullmatch(line)
            begun = not inside
        if not right:
            return at, "unexpected"
    if inside or lines[-1]:
        return text.count("\n"), "too short"
    return None


class TextsCase(unittest.TestCase):
    def check_fault(self, text, line, reason):
        with self.assertRaises(TextError) as caught:
            read_program(text)
        self.assertIsInstance(caught.exception, RightsError)
        self.assertEqual((caught.exception.line, caught.exception.reason), (line, reason), repr(text))

    def check_unexpected(self, line):
        """The line is none, neither as the first one, nor behind another one, nor with two blanks in a body."""
        self.check_fault(line + "\n", 0, "unexpected")
        if line:
            self.check_fault(line, 0, "unexpected")
        self.check_fault("let a : rw = 0\n" + line + "\nbad\n", 1, "unexpected")
        self.check_fault("def f()\n  " + line + "\nend\n", 1, "unexpected")

    def check_no_program(self, text):
        self.check_fault(text, text.count("\n"), "no program")
        self.assertIsNone(model_fault(text))


class TextOfTest(TextsCase):
    def test_worked(self):
        self.assertEqual(text_of(Program(*PROGRAM)), TEXT)

    def test_each_line(self):
        lets = [("let", "n", ("rw",), NUMBER), ("let", "p", ("rw", "-"), NULL)]
        before = "let n : rw = 7\nlet p : rw - = null\n"
        for statement, line in [
                (("let", "x", ("rw", "r", "w", "-"), NULL), "let x : rw r w - = null"),
                (("let", "x", ("-",), ("number", 0)), "let x : - = 0"),
                (("let", "xxxxxxxx", ("r",), ("number", 1000)), "let xxxxxxxx : r = 1000"),
                (("let", "x", ("w",), ("value", ("n", 0))), "let x : w = n"),
                (("let", "x", ("w",), ("value", ("p", 2))), "let x : w = **p"),
                (("let", "x", ("w", "r"), ("address", ("n", 0))), "let x : w r = &n"),
                (("let", "x", ("w", "r"), ("address", ("p", 3))), "let x : w r = &***p"),
                (("put", ("n", 0), NUMBER), "put n = 7"), (("put", ("p", 5), NULL), "put *****p = null"),
                (("put", ("p", 1), ("value", ("p", 1))), "put *p = *p"),
                (("put", ("p", 0), ("address", ("n", 0))), "put p = &n"),
                (("put", ("zz", 0), NULL), "put zz = null"),
                (("let", "end", ("r",), NUMBER), "let end : r = 7"), (("put", ("def", 0), NUMBER), "put def = 7")]:
            program = Program([], lets + [statement])
            self.assertEqual(text_of(program), before + line + "\n")
            self.assertEqual(parts(read_program(before + line + "\n")), parts(program))

    def test_calls_and_functions(self):
        functions = [Function("a", [], []), Function("b", [("x", ("r",))], [("call", "a", [])]),
                     Function("c", [("y", ("rw", "w")), ("z", ("-",))], [("let", "v", ("r",), NUMBER)])]
        statements = [("call", "a", []), ("call", "b", [NUMBER]), ("call", "c", [NULL, ("value", ("q", 1))])]
        text = ("def a()\nend\ndef b(x : r)\n  call a()\nend\ndef c(y : rw w, z : -)\n  let v : r = 7\nend\n"
                "call a()\ncall b(7)\ncall c(null, *q)\n")
        program = Program(functions, statements)
        self.assertEqual(text_of(program), text)
        self.assertEqual(parts(read_program(text)), parts(program))

    def test_sketch(self):
        self.assertIn("def keep(to : 1, n : 0)\n", SKETCH)
        self.assertIn("let c : 5 = null\n", SKETCH)
        sketch = read_program(SKETCH)
        self.assertIs(is_sketch(sketch), True)
        self.assertEqual(sketch.functions[0].params, [("to", 1), ("n", 0)])
        self.assertEqual(text_of(sketch), SKETCH)

    def test_nothing(self):
        self.assertEqual(text_of(Program([], [])), "")
        self.assertEqual(text_of(Program([Function("f", [], [])], [])), "def f()\nend\n")

    def test_arguments_stay(self):
        program = Program(*PROGRAM)
        before = copy.deepcopy(parts(program))
        text_of(program)
        self.assertEqual(parts(program), before)


class ReadTest(TextsCase):
    def test_worked(self):
        program = read_program(TEXT)
        self.assertIs(type(program), Program)
        self.assertEqual(parts(program), parts(Program(*PROGRAM)))
        self.assertIs(is_sketch(program), False)

    def test_empty(self):
        self.assertEqual(parts(read_program("")), ([], []))

    def test_a_new_program_each_time(self):
        read_program(TEXT).statements.clear()
        self.assertEqual(text_of(read_program(TEXT)), TEXT)

    def test_what_drawn_programs_are_read_back_as(self):
        for seed in range(300):
            rng = random.Random(seed)
            for program in (Drawer(rng, [], seed % 2 == 0, 4).program(), drawn_sketch(rng, seed % 2 == 0),
                            linked_sketch(rng, 5)):
                text = text_of(program)
                self.assertIsNone(model_fault(text))
                self.assertEqual(parts(read_program(text)), parts(program))
                self.assertEqual(text.count("\n"), len(text.splitlines()))

    def test_each_letter_and_digit(self):
        for sign in "abcdefghijklmnopqrstuvwxyz":
            for text in (f"put {sign} = {sign}\n", f"put x = *{sign}\n", f"let {sign} : r = {sign}z\n"):
                self.assertEqual(text_of(read_program(text)), text)
        for number in list(range(30)) + list(range(90, 1001, 7)):
            program = read_program(f"put x = {number}\n")
            self.assertEqual(program.statements, [("put", ("x", 0), ("number", number))])

    def test_breaking_programs(self):
        program = breaking(("rw", "rw", "r"), ("rw", "r", "rw"))
        self.assertEqual(parts(read_program(text_of(program))), parts(program))

    def test_the_largest(self):
        functions = [Function(name, [(name + sign, 0) for sign in "abcd"],
                              [("put", (name + "a", 0), NUMBER)] * 12) for name in "abcd"]
        program = Program(functions, [("put", ("z", 5), ("value", ("z", 5)))] * 40)
        self.assertEqual(parts(read_program(text_of(program))), parts(program))


class UnexpectedTest(TextsCase):
    def test_lines_that_are_none(self):
        for line in ["", " ", "a", "let", "let ", "put", "call", "def", "de f()", "End", "ends", "end ", "end()",
                     "#", "let x", "let x : r", "let x : r =", "let x : r = ", "let x = 7", "let x : = 7",
                     "let x :  = 7", "put x", "put x =", "put x = ", "put = 7", "put * = 7", "put  = 7", "call f",
                     "call f(", "call f)", "call ()", "call (7)", "x = 7", "7", "null", "put 7 = x", "put &x = 7",
                     "let *x : r = 7", "let x : r = 7 7", "let x : r = 7;", "let x : r : r = 7", "let x : r = y = 7",
                     "put x = y = 7", "call f(7) call f(7)", "call f(7))", "call f((7))", "call f(7", "call f7)",
                     "call f(7)(7)", "call *f()", "call &f()", "run f()"]:
            self.check_unexpected(line)

    def test_blanks(self):
        for line in [" let x : r = 7", "let  x : r = 7", "let x: r = 7", "let x :r = 7", "let x  : r = 7",
                     "let x :  r = 7", "let x : r  = 7", "let x : r =  7", "let x : r= 7", "let x : r =7",
                     "let x : r = 7 ", "let x:r=7", "letx : r = 7", "let x : r  w = 7", "let x : rw  = 7",
                     " put x = 7", "put  x = 7", "put x  = 7", "put x =  7", "put x= 7", "put x =7", "put x = 7 ",
                     "putx = 7", "put * x = 7", "put x = * y", "put x = & y", "put x = &* y", " call f()",
                     "call  f()", "call f ()", "call f( )", "call f() ", "call f( 7)", "call f(7 )", "call f(7,8)",
                     "call f(7 , 8)", "call f(7,  8)", "callf()", "call f(7, )", "call f(, 7)", "call f(,)",
                     "call f(, )", "call f(7, , 8)", "call f(7,)", "call f(7, 8,)", "\tlet x : r = 7",
                     "let\tx : r = 7", "let x\t: r = 7", "let x : r\tw = 7", "put x =\t7"]:
            self.check_unexpected(line)

    def test_heads(self):
        for line in [" def f()", "def  f()", "def f ()", "def f() ", "def f( )", "def f", "def f(", "def f)", "def ()",
                     "def (x : r)", "def f(x)", "def f(x : )", "def f(x :)", "def f(x: r)", "def f(x :r)",
                     "def f(x  : r)", "def f(x :  r)", "def f(x : r )", "def f( x : r)", "def f(x : r,y : r)",
                     "def f(x : r , y : r)", "def f(x : r,  y : r)", "def f(x : r, )", "def f(, x : r)",
                     "def f(x : r,)", "def f(,)", "def f(x : r, y)", "def f(7)", "def f(x : r : r)", "def f(x : rr)",
                     "def f(x : r))", "def f((x : r))", "def f(x : r):", "def f():", "Def f()", "def F()", "def f7()",
                     "def *f()", "def f(*x : r)", "def f(&x : r)", "def f(x : r = 7)", "def f() end", "deff()",
                     "def f(x : r w  rw)", "def f(x : 07)", "def f(x : -1)", "def f(x : r 1)", "def f(x : 1 r)"]:
            self.check_unexpected(line)

    def test_rights(self):
        for kind in ["", "wr", "rr", "R", "RW", "x", "--", "-r", "r-", "rw,r", "r,w", "(rw)", "rw rw wr", "r -  w",
                     "rw 0", "0 rw", "0 0", "1 1", " ", "null", "'r'", "r\u200b", "\u2212"]:
            self.check_unexpected(f"let x : {kind} = 7")
            self.check_unexpected(f"def f(x : {kind})")

    def test_numbers(self):
        for number in ["00", "01", "007", "0000", "-1", "+1", "1.0", "1e3", "0x1", "1_0", "1,0", " 1", "1 ", "1a", "a1",
                       "*1", "&1", "\u0661", "1\u0660", "\uff11", "\u00b2", "\u2460", "\u0967", "\U0001d7ce",
                       "\u4e00"]:
            self.check_unexpected(f"let x : r = {number}")
            self.check_unexpected(f"put x = {number}")
            self.check_unexpected(f"call f({number})")
            self.check_unexpected(f"let x : {number} = 7")
            self.check_unexpected(f"def f(x : {number})")

    def test_names(self):
        for name in ["", "X", "aB", "x1", "1x", "x_y", "_", "x-y", "x.y", "x'", "x y", "\u00e4", "x\u0301", "\u0430",
                     "\uff41", "\u017f", "\u0131", "x\u200d", "\u212a", "\u00aa"]:
            self.check_unexpected(f"let {name} : r = 7")
            self.check_unexpected(f"put {name} = 7")
            self.check_unexpected(f"put *{name} = 7")
            self.check_unexpected(f"put x = &{name}")
            self.check_unexpected(f"put x = **{name}")
            self.check_unexpected(f"call {name}()")
            self.check_unexpected(f"def {name}()")
            self.check_unexpected(f"def f({name} : r)")

    def test_sources(self):
        for source in ["", "&", "*", "&&x", "*&x", "&x*", "x*", "x&", "&*", "**", "& x", "* x", "& *x", "NULL", "Null",
                       "null null", "n\u00fcll", "nul l", "(x)", "&(x)", "-", "x, y", "\uff06x", "\u2217x"]:
            self.check_unexpected(f"let x : r = {source}")
            self.check_unexpected(f"put x = {source}")
            if source not in ("", "x, y"):
                self.check_unexpected(f"call f({source})")

    def test_other_line_ends(self):
        for end in ["\r", "\x0b", "\x0c", "\x1c", "\x1d", "\x1e", "\x85", "\u2028", "\u2029", "\u00a0", "\u3000",
                    "\ufeff", "\x00"]:
            for line in ["let x : r = 7", "put x = 7", "put x = y", "call f()", "def f()", "def f(x : r)"]:
                self.check_unexpected(line + end)
                self.check_unexpected(end + line)
                self.check_unexpected(line.replace(" ", end, 1))
                self.check_fault(line + end + line + "\n", 0, "unexpected")
            self.check_fault("def f()\nend" + end + "\n", 1, "unexpected")
            self.check_fault("def f()\n" + end + "end\n", 1, "unexpected")
            self.check_fault(end, 0, "unexpected")
        self.check_fault(TEXT.replace("\n", "\r\n"), 0, "unexpected")

    def test_places_of_lines(self):
        body = "  put x = 7\n"
        for text, line in [
                ("end\n", 0), (body, 0), ("put x = 7\nend\n", 1), ("put x = 7\n" + body, 1),
                ("put x = 7\ndef f()\nend\n", 1), ("def f()\nend\nput x = 7\ndef g()\nend\n", 3),
                ("def f()\nput x = 7\nend\n", 1), ("def f()\ndef g()\nend\nend\n", 1), ("def f()\n  def g()\n  end\n", 1),
                ("def f()\n end\n", 1), ("def f()\n  end\n", 1), ("def f()\n put x = 7\nend\n", 1),
                ("def f()\n   put x = 7\nend\n", 1), ("def f()\n\tput x = 7\nend\n", 1), ("def f()\n\nend\n", 1),
                ("def f()\n  \nend\n", 1), ("def f()\nend\nend\n", 2), ("def f()\nend\n" + body, 2),
                ("def f()\n" + body + "put x = 7\nend\n", 2), ("\n", 0), ("\n\n", 0), ("put x = 7\n\n", 1),
                ("\nput x = 7\n", 0), ("def f()\nend\n\nput x = 7\n", 2), (TEXT + "\n", TEXT.count("\n")),
                (TEXT + "end\n", TEXT.count("\n")), (TEXT + TEXT, TEXT.count("\n"))]:
            self.check_fault(text, line, "unexpected")

    def test_the_first_one(self):
        self.check_fault("put x = 7\nbad\nworse\n", 1, "unexpected")
        self.check_fault("put toolongname = 1001\nbad", 1, "unexpected")
        self.check_fault("def f()\nbad", 1, "unexpected")

    def test_a_last_line_that_is_broken_off(self):
        """It is none of such a line, so no line feed is asked of it."""
        for line in ["let x : rw = 7", "put x = 7", "call f(7, 8)", "def f(x : rw, y : r)"]:
            for many in range(1, len(line)):
                text = "let a : r = 0\n" + line[:many]
                self.assertEqual(told_of(text), model_fault(text))
        self.check_fault("let a : r = 0\nlet x : rw =", 1, "unexpected")


class TooShortTest(TextsCase):
    def test_no_line_feed_at_the_end(self):
        for text, many in [("put x = 7", 0), ("let x : r = 7", 0), ("call f()", 0), ("def f()", 0),
                           ("def f()\nend", 1), ("def f()\n  put x = 7", 1), ("put x = 7\nput x = 7", 1),
                           (TEXT[:-1], TEXT.count("\n") - 1), (SKETCH[:-1], SKETCH.count("\n") - 1)]:
            self.check_fault(text, many, "too short")

    def test_no_end(self):
        for text, many in [("def f()\n", 1), ("def f()\n  put x = 7\n", 2), ("def f()\nend\ndef g()\n", 3),
                           ("def f()\n  put x = 7\n  put x = 7", 2)]:
            self.check_fault(text, many, "too short")

    def test_comes_ahead_of_no_program(self):
        self.check_fault("let toolongname : 0 = 7", 0, "too short")
        self.check_fault("let x : 0 = 7\nlet x : 0 = 7", 1, "too short")
        self.check_fault("def f(x : 0)\n  let x : r = 7\n", 2, "too short")

    def test_each_beginning(self):
        for text in (TEXT, SKETCH):
            for many in range(len(text)):
                wanted = model_fault(text[:many])
                if wanted is None:
                    self.assertIsInstance(told_of(text[:many]), Program)
                else:
                    self.assertEqual(told_of(text[:many]), wanted)


class NoProgramTest(TextsCase):
    def test_lines(self):
        long = "9" * 30
        for line in ["let xxxxxxxxx : r = 7", "let null : r = 7", "let x : r r r r r r r = 7", "let x : 6 = 7",
                     f"let x : {long} = 7", "let x : r = 1001", f"let x : r = {long}", "let x : r = ******y",
                     "let x : r = &******y", "let x : r = *null", "let x : r = &null", "let x : r = &*null",
                     "let x : r = yyyyyyyyy", "let x : r = &yyyyyyyyy", "let x : r = nullnulln", "put null = 7",
                     "put *null = 7", "put ******x = 7", "put xxxxxxxxx = 7", f"put x = {long}", "put x = *null",
                     "put x = &null", "put x = 1001", "call null()", "call fffffffff()", "call f(1001)",
                     "call f(&null)", "call f(7, *null)", "call f(******x)", "call f()", "call f(1, 2, 3, 4, 5)"]:
            self.check_no_program(line + "\n")
            self.check_no_program("let a : rw = 7\n" + line + "\n")
            self.check_no_program(f"def g()\n  {line}\nend\n")
        self.assertIsInstance(read_program("let x : r = null\nput x = null\n"), Program)

    def test_heads(self):
        for line in ["def null()", "def fffffffff()", "def f(null : r)", "def f(xxxxxxxxx : r)", "def f(x : 6)",
                     "def f(x : - - - - - - -)", "def f(x : r, x : r)", "def f(f : r)", "def f(x : r, y : 0)",
                     "def f(a : 0, b : 0, c : 0, d : 0, e : 0)"]:
            self.check_no_program(line + "\nend\n")

    def test_wholes(self):
        put = "put x = 7\n"
        for text in ["let x : r = 7\nlet x : r = 7\n", "let x : r = 7\nlet y : 0 = 7\n",
                     "def f(x : 0)\nend\nlet y : r = 7\n", "def f()\nend\nlet f : r = 7\n", put * 41,
                     "def f()\n" + ("  " + put) * 13 + "end\n", "def f()\n  call f()\nend\n",
                     "def f()\n  call g()\nend\ndef g()\nend\n", "def f()\nend\ncall f(7)\n",
                     "def f(x : r)\nend\ncall f()\n", "".join(f"def {name}()\nend\n" for name in "abcde"),
                     "def f()\nend\ndef f()\nend\n"]:
            self.check_no_program(text)
        self.assertIsInstance(read_program(put * 40), Program)

    def test_numbers_of_whatever_size(self):
        for many in (4, 5, 9, 10, 11, 1000, 4300, 4301, 10000):
            for first in "19":
                number = first + "0" * (many - 1)
                wanted = number == "1000"
                if wanted:
                    self.assertIsInstance(read_program(f"put x = {number}\n"), Program)
                else:
                    self.check_no_program(f"put x = {number}\n")
                    self.check_no_program(f"call f(x, {number})\n")
                self.check_no_program(f"let x : {number} = 7\n")
                self.check_fault(f"put x = {number}", 0, "too short")
                self.check_fault(f"put x = 0{number}\n", 0, "unexpected")

    def test_many_stars_and_long_names(self):
        self.check_no_program("put " + "*" * 5000 + "x = 7\n")
        self.check_no_program("put " + "x" * 5000 + " = 7\n")
        self.check_no_program("let x : " + " ".join(["rw"] * 5000) + " = 7\n")
        self.check_no_program("put x = 7\n" * 5000)
        self.check_no_program("call f(" + ", ".join(["x"] * 5000) + ")\n")


class ChangedTest(TextsCase):
    """Texts with a sign, a word, a blank or a line put in, left out or set, against the patterns."""

    SIGNS = "abrw *&:=(),-0179\n\r\tXz_\u00e4\u0663\u2028"
    WORDS = ["let", "put", "call", "def", "end", "null", "rw", "r", "-", "=", ":", "x", "*x", "&x", "0", "07", "1000",
             "1001", "", "f(", ")", "nullnulln"]

    def changed(self, rng, text):
        kind = rng.randrange(3)
        if kind == 0:
            at = rng.randint(0, len(text))
            return text[:at] + rng.choice(["", rng.choice(self.SIGNS)]) + text[at + rng.randint(0, 1):]
        ends = "\n" if kind == 1 else " "
        words = text.split(ends)
        at = rng.randrange(len(words))
        words[at:at + rng.randint(0, 1)] = rng.choice([[], [rng.choice(words)], [rng.choice(self.WORDS)]])
        return ends.join(words)

    def test_changed(self):
        told = {"unexpected": 0, "too short": 0, "no program": 0, "": 0}
        for seed in range(300):
            rng = random.Random(seed)
            made = rng.choice([TEXT, SKETCH, text_of(Drawer(rng, []).program()), text_of(linked_sketch(rng))])
            for _ in range(30):
                text = self.changed(rng, made)
                if rng.random() < 0.2:
                    text = self.changed(rng, text)
                found, wanted = told_of(text), model_fault(text)
                if isinstance(found, Program):
                    self.assertIsNone(wanted, repr(text))
                    self.assertEqual(text_of(found), text)
                    told[""] += 1
                    continue
                self.assertEqual(found, wanted or (text.count("\n"), "no program"), repr(text))
                told[found[1]] += 1
        for reason, many in told.items():
            self.assertGreater(many, 50, reason)
