"""heldover.texts: the text of modules, and reading it back."""

import unittest

from heldover.errors import InvalidText
from heldover.texts import modules_text, read_modules
from tests.anything import ODD
from tests.programs import random_version

EXAMPLE = """module shop
kind color Red Mix(int,task)
door price(int) int
key orders color
function buy(n:int) int
  local x:int
  ask 1 x price n
  if (less x 10)
    return x
  else
    raise dear
"""
EVERYTHING = """module base
kind color Red Mix(int,task)
kind pair Two(color,bool)
door ping() bool
door price(int,color) pair
key orders color
function help() task
module shop
uses base
key paid int
function run(n:int,c:color) int
  local x:int t:task ok:bool
  set x (add n -3)
  if (and ok (not (same t self)))
    match (Mix n self)
    case Red
    case Mix x t
      loop 1 9
        break
  else
  loop round 2
    try t
      call c t help
      call - t help n (mul n 2) true
    on dear
      raise late
    on late
  both b
    ask a ok ping
    since s
      sleep w (sub 0 n)
    else
  else
    send m self orders (Red)
    receive r x paid
    start go t run x c
  return (div x (mod n (or false ok)))
  become run 1 (Mix 0 self)
"""


def one_function(*lines):
    """A text with these lines in the body of a function."""
    return "".join(line + "\n" for line in ("module m", "function f(n:int) int", *lines))


class WriteTest(unittest.TestCase):
    def test_the_example(self):
        body = (("ask", "1", "x", "price", ("n",)), ("if", ("less", "x", 10), (("return", "x"),), (("raise", "dear"),)))
        buy = ("buy", (("n", "int"),), (("x", "int"),), "int", body)
        shop = ("shop", (), (("color", (("Red", ()), ("Mix", ("int", "task")))),), (("price", ("int",), "int"),),
                (("orders", "color"),), (buy,))
        self.assertEqual(modules_text([shop]), EXAMPLE)
        self.assertEqual(modules_text((shop,)), EXAMPLE)
        self.assertEqual(read_modules(EXAMPLE), [shop])

    def test_no_modules(self):
        self.assertEqual(modules_text([]), "")
        self.assertEqual(read_modules(""), [])

    def test_a_bare_module(self):
        self.assertEqual(modules_text([("m", (), (), (), (), ())]), "module m\n")
        self.assertEqual(read_modules("module m\nmodule m\n"), [("m", (), (), (), (), ())] * 2)

    def test_every_statement(self):
        modules = read_modules(EVERYTHING)
        self.assertEqual(modules_text(modules), EVERYTHING)
        body = modules[1][5][0][4]
        self.assertEqual(body[0], ("set", "x", ("add", "n", -3)))
        self.assertEqual(body[1], (
            "if", ("and", "ok", ("not", ("same", "t", ("self",)))),
            (("match", ("tag", "Mix", "n", ("self",)),
              (("Red", (), ()), ("Mix", ("x", "t"), (("loop", "1", 9, (("break",),)),)))),),
            (),
        ))
        self.assertEqual(body[2], ("loop", "round", 2, ((
            "try", "t", (("call", "c", "t", "help", ()), ("call", "", "t", "help", ("n", ("mul", "n", 2), True))),
            (("dear", (("raise", "late"),)), ("late", ())),
        ),)))
        self.assertEqual(body[3], (
            "both", "b",
            (("ask", "a", "ok", "ping", ()), ("since", "s", (("sleep", "w", ("sub", 0, "n")),), ())),
            (("send", "m", ("self",), "orders", ("tag", "Red")), ("receive", "r", "x", "paid"),
             ("start", "go", "t", "run", ("x", "c"))),
        ))
        self.assertEqual(body[4], ("return", ("div", "x", ("mod", "n", ("or", False, "ok")))))
        self.assertEqual(body[5], ("become", "run", (1, ("tag", "Mix", 0, ("self",)))))

    def test_declarations(self):
        base, shop = read_modules(EVERYTHING)
        self.assertEqual(base[:2], ("base", ()))
        self.assertEqual(base[2], (
            ("color", (("Red", ()), ("Mix", ("int", "task")))), ("pair", (("Two", ("color", "bool")),)),
        ))
        self.assertEqual(base[3], (("ping", (), "bool"), ("price", ("int", "color"), "pair")))
        self.assertEqual(base[4:], ((("orders", "color"),), (("help", (), (), "task", ()),)))
        self.assertEqual(shop[1:5], (("base",), (), (), (("paid", "int"),)))
        self.assertEqual(shop[5][0][:4], (
            "run", (("n", "int"), ("c", "color")), (("x", "int"), ("t", "task"), ("ok", "bool")), "int",
        ))

    def test_modules_that_are_no_version(self):
        long = tuple(("set", "x", number) for number in range(30))
        modules = [
            ("m", ("a", "a"), (("k", tuple(("T" + one, ("x",) * 5) for one in "abcdefgh")),), (("d", ("y",) * 7, "z"),),
             (("d", "int"),), (
                ("f", tuple(("p", "k") for _ in range(7)), tuple(("p", "k") for _ in range(11)), "q", long),
                ("f", (), (), "int", (("try", "", (), ()), ("match", 1, ()), ("break",), ("return", ("tag", "A", 1, 2, 3, 4)))),
                ("f", (), (), "int", (("match", 1, (("A", ("x", "x", "x", "x"), ()),) * 7),)),
                ("f", (), (), "int", (("try", "9", (), (("e", ()),) * 5), ("sleep", "9", True))),
            )),
            ("m", (), (), (), (), ()),
        ]
        found = read_modules(modules_text(modules))
        self.assertEqual(found, modules)
        self.assertIsInstance(found, list)
        self.assertIsInstance(found[0], tuple)

    def test_versions_of_all_sorts_are_read_back(self):
        for seed in range(60):
            version = random_version(seed)
            self.assertEqual(read_modules(str(version)), version.modules())
            self.assertEqual(modules_text(version.modules()), str(version))

    def test_by_name(self):
        self.assertEqual(modules_text(modules=[]), "")
        self.assertEqual(read_modules(text=""), [])

    def test_results_are_new(self):
        first = read_modules(EXAMPLE)
        first.append(1)
        self.assertEqual(len(read_modules(EXAMPLE)), 1)


class RefusedTest(unittest.TestCase):
    def refused(self, text, line):
        with self.assertRaises(InvalidText) as caught:
            read_modules(text)
        self.assertEqual(caught.exception.line, line, text)

    def in_body(self, *lines):
        """The last of these lines of a body is refused."""
        self.refused(one_function(*lines), 2 + len(lines))

    def read(self, *lines):
        text = one_function(*lines)
        self.assertEqual(modules_text(read_modules(text)), text)

    def test_no_string(self):
        for value in ODD:
            if not isinstance(value, str):
                self.refused(value, 0)
        self.refused(EXAMPLE.encode(), 0)

    def test_each_line_left_out_or_doubled(self):
        lines = EXAMPLE.splitlines(keepends=True)
        left_out = {0: 1, 4: 5, 7: 8, 9: 11}
        doubled = {5: 7, 9: 11}
        for at in range(len(lines)):
            without = "".join(lines[:at] + lines[at + 1:])
            twice = "".join(lines[:at + 1] + lines[at:])
            if at in left_out:
                self.refused(without, left_out[at])
            else:
                self.assertEqual(modules_text(read_modules(without)), without)
            if at in doubled:
                self.refused(twice, doubled[at])
            elif at not in (7,):
                self.assertEqual(modules_text(read_modules(twice)), twice)
        self.refused("".join(lines[:8] + lines[7:]), 9)

    def test_lines_exchanged(self):
        lines = EXAMPLE.splitlines(keepends=True)
        for at, line in ((0, 1), (1, 3), (2, 4), (3, 5), (4, 5), (5, 7), (7, 8)):
            changed = list(lines)
            changed[at], changed[at + 1] = changed[at + 1], changed[at]
            self.refused("".join(changed), line)

    def test_lines_moved_in_and_out(self):
        lines = EXAMPLE.splitlines(keepends=True)
        for at in range(len(lines)):
            moved_in = "".join([*lines[:at], "  " + lines[at], *lines[at + 1:]])
            self.refused(moved_in, at + 1)
            if lines[at].startswith("  "):
                moved_out = "".join([*lines[:at], lines[at][2:], *lines[at + 1:]])
                if at == 10:
                    self.assertEqual(modules_text(read_modules(moved_out)), moved_out)
                else:
                    self.refused(moved_out, at + 1)

    def test_spaces_and_empty_lines(self):
        for text in (EXAMPLE, EVERYTHING):
            lines = text.splitlines(keepends=True)
            for at, line in enumerate(lines):
                self.refused("".join([*lines[:at], line[:-1] + " \n", *lines[at + 1:]]), at + 1)
                self.refused("".join([*lines[:at], " " + line, *lines[at + 1:]]), at + 1)
                self.refused("".join([*lines[:at], "\n", *lines[at:]]), at + 1)
                first = line.strip().replace(" ", "  ", 1)
                if " " in line.strip():
                    indent = line[:len(line) - len(line.lstrip())]
                    self.refused("".join([*lines[:at], indent + first + "\n", *lines[at + 1:]]), at + 1)
                self.refused("".join(lines[:at]) + "\t" + "".join(lines[at:]), at + 1)
        self.refused("\n", 1)
        self.refused(EXAMPLE + "\n", 12)
        self.refused(EXAMPLE + " ", 12)

    def test_a_last_line_without_line_feed(self):
        self.refused("module m", 1)
        self.refused(EXAMPLE[:-1], 11)
        self.refused(EXAMPLE + "module", 12)
        self.refused("modul\nmodule m", 1)
        for at in range(1, len(EXAMPLE)):
            if EXAMPLE[at - 1] != "\n":
                self.refused(EXAMPLE[:at], EXAMPLE[:at].count("\n") + 1)

    def test_a_text_that_ends_too_early(self):
        for line in ("  if true", "  both b", "  since s"):
            self.refused(one_function(line), 4)
            self.refused(one_function(line, "    break"), 5)
            self.read(line, "  else")
        self.refused(one_function("  if true", "    if true", "    else"), 6)
        self.refused(one_function("  if true", "  break"), 4)
        self.refused(one_function("  if true") + "function g() int\n", 4)
        self.read("  try t")
        self.read("  match n")
        self.read("  loop l 3")

    def test_words(self):
        for text in ("modul m\n", "module\n", "module M\n", "module module\n", "module m n\n", "module abcdefghi\n"):
            self.refused(text, 1)
        for line in ("uses", "uses M", "uses a,b", "uses int", "kind k", "kind k red", "kind k Red()", "kind k Red(int",
                     "kind k Red(int, int)", "kind k Red(Int)", "kind k Red(self)", "kind k Red(,)", "kind int Red",
                     "kind k Red (int)", "kind k Red(int)Mix", "door d int", "door d()", "door d()int", "door d() Int",
                     "door d(n:int) int", "door D() int", "key k", "key k int int", "key k(int)", "function f int",
                     "function f()", "function f(n) int", "function f(n:int m:int) int", "function f(n:int,) int",
                     "function f(int:n) int", "function f() if", "local n:int", "set x 1", "  set x 1", "else"):
            self.refused(f"module m\n{line}\n", 2)
        self.refused("module m\nkey k int\nuses a\n", 3)
        self.refused("module m\nfunction f() int\nkind k Red\n", 3)

    def test_words_of_statements(self):
        for line in ("set x", "set x 1 2", "set 1 x", "set Red 1", "if", "if true false", "match", "loop 1", "loop 1 1 1",
                     "break 1", "return", "return 1 2", "raise", "raise Dear", "raise 1", "raise dear late", "try", "try t t",
                     "call c x", "call c 1 f", "call x f", "ask a x 1", "ask a x", "send m self k", "send m self 1 1",
                     "send m k", "send m self k 1 1", "receive r x", "receive r x k 1", "receive r 1 k", "sleep 1",
                     "sleep s 1 1", "start s x", "start s x 1", "both", "both b b", "since", "become", "become 1", "tag Red",
                     "local", "local x", "local x:int,y:int", "local x:int x", "local Red:int", "else", "case Red", "on dear",
                     "-", "foo", "Set x 1", "module m", "mark m", "end"):
            self.in_body("  " + line)
        self.in_body("  break", "  local x:int")
        self.in_body("  local x:int", "  local x:int")
        self.in_body("  if true", "    break", "  else", "  else")
        self.in_body("  match n", "  case red")
        self.in_body("  match n", "  case")
        self.in_body("  match n", "  case Red 1")
        self.in_body("  match n", "  on dear")
        self.in_body("  match n", "    case Red")
        self.in_body("  match n", "    break")
        self.in_body("  try t", "  case Red")
        self.in_body("  try t", "  on Dear")
        self.in_body("  try t", "  on dear late")
        self.in_body("  try t", "  on dear", "  else")
        self.in_body("  loop l 1", "  else")

    def test_labels(self):
        for label in ("-", "1", "99", "a", "round"):
            self.read(f"  sleep {label} n")
        for label in ("0", "01", "100", "A", "self", "--", "1a", "a1", ""):
            self.in_body(f"  sleep {label} n")

    def test_rounds(self):
        for rounds in range(1, 10):
            self.read(f"  loop l {rounds}")
        for rounds in ("0", "10", "01", "-1", "+1", "n", "true", "(add 1 1)", "9 9"):
            self.in_body(f"  loop l {rounds}")

    def test_expressions(self):
        for good in ("0", "-1", "10", "true", "false", "self", "n", "(Red)", "(Red 1 2 3 4 5 6)", "(not n)", "(add 1 n)",
                     "(same (Red) self)"):
            self.read(f"  return {good}")
        for bad in ("-0", "00", "01", "-01", "+1", "1n", "- 1", "--1", "True", "()", "(self)", "(n)", "(1)", "(true)", "(tag Red)",
                    "(add 1)", "(add 1 2 3)", "(add)", "(not)", "(not 1 2)", "(neg 1)", "(add 1 2", "add 1 2", "(add 1 2))",
                    "( add 1 2)", "(add 1 2 )", "(add  1 2)", "(add 1,2)", "(add(1 2))", "(red)", "(Red1)", "Red", "tag", "int",
                    "(is Red n)", "(add 1 2)3", "(add 1 (add 1 2)", "1.5", "'n'", "(less x 10"):
            if bad != "tag":
                self.in_body(f"  return {bad}")

    def test_operators(self):
        for word in ("add", "sub", "mul", "div", "mod", "less", "same", "and", "or"):
            self.read(f"  return ({word} n n)")
            self.in_body(f"  return ({word} n)")
            self.in_body(f"  return ({word} n n n)")

    def test_levels(self):
        expression = "n"
        for _ in range(4):
            expression = f"(add 1 {expression})"
        self.read(f"  return {expression}")
        self.in_body(f"  return (add 1 {expression})")
        self.in_body(f"  return (Red {expression})")
        self.read("  return (Red (Red (Red (Red (Red)))))")
        self.in_body("  return (Red (Red (Red (Red (Red (Red))))))")
        self.in_body("  return " + "(add 1 " * 1200 + "1" + ")" * 1200)
        self.in_body("  return " + "(" * 1200)

    def test_long_integers(self):
        for sign in ("", "-"):
            self.read(f"  return {sign}{'9' * 249}")
            self.read(f"  return {sign}{'9' * 250}")
            self.in_body(f"  return {sign}{'9' * 251}")
            self.in_body(f"  return {sign}{'9' * 5000}")
            self.in_body(f"  return {sign}{'0' * 250}")

    def test_bodies_within_each_other(self):
        heads = ["  " * depth + "loop - 2" for depth in range(1, 5)]
        self.read(*heads, "          break")
        self.in_body(*heads, "          loop - 2")
        for line in ("if true", "both b", "since s", "try t"):
            self.in_body(*heads, "          " + line)
        self.read(*heads, "          match n")
        self.in_body(*heads, "          match n", "          case Red")
        self.refused(one_function(*["  " * depth + "loop - 2" for depth in range(1, 101)]), 7)

    def test_kinds_that_are_not_there(self):
        text = "module m\ndoor d(any,int) none\nkey k what\nfunction f(n:some) other\n  local x:more\n"
        self.assertEqual(modules_text(read_modules(text)), text)
