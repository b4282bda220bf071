"""Reading the lines of a text of modules, each of which must be able to stand behind those before it."""

from heldover.errors import InvalidText
from heldover.lines import Line
from heldover.syntax import BODY_ITEMS, DEEPEST_BODY, NAME_ITEMS, SHAPES

INDENT = "  "


def read_item(line, what):
    """Reads an item that stands in the line of its statement."""
    if what == "operands":
        return line.read_expressions()
    line.take(" ")
    if what in NAME_ITEMS:
        return line.read_name()
    if what == "label":
        return line.read_label()
    return line.read_rounds() if what == "rounds" else line.read_expression()


def read_variants(line):
    """Reads the variants of a kind, each behind a space; there is one at least, and no empty brackets."""
    found = []
    while not line.is_read() or not found:
        line.take(" ")
        tag = line.read_tag()
        fields = line.read_bracketed(False) if line.sees("(") else None
        if fields == ():
            raise InvalidText(line.number)
        found.append((tag, fields or ()))
    return tuple(found)


class Reader:
    """The lines of a text, read from the first one on."""

    def __init__(self, lines):
        self.lines = lines
        self.at = 0

    def comes(self, depth, word):
        """Whether the next line begins with this word, with so many bodies around."""
        if self.at == len(self.lines):
            return False
        begin = INDENT * depth + word
        line = self.lines[self.at]
        return line == begin or line.startswith(begin + " ")

    def refuse(self):
        """Refuses the line that was read last."""
        raise InvalidText(self.at)

    def begun(self, depth, word):
        """Begins the next line, which must begin with this word."""
        if not self.comes(depth, word):
            raise InvalidText(self.at + 1)
        line = Line(self.lines[self.at], self.at + 1)
        line.take(INDENT * depth + word)
        self.at += 1
        return line

    def all_modules(self):
        """Reads all modules."""
        found = []
        while self.at < len(self.lines):
            found.append(self.read_module())
        return found

    def read_module(self):
        """Reads a module."""
        line = self.begun(0, "module")
        line.take(" ")
        name = line.read_name()
        line.finish()
        uses, kinds, doors, keys, functions = (), [], [], [], []
        if self.comes(0, "uses"):
            uses = self.read_uses()
        while self.comes(0, "kind"):
            kinds.append(self.read_kind())
        while self.comes(0, "door"):
            doors.append(self.read_door())
        while self.comes(0, "key"):
            keys.append(self.read_key())
        while self.comes(0, "function"):
            functions.append(self.read_function())
        return (name, uses, tuple(kinds), tuple(doors), tuple(keys), tuple(functions))

    def read_uses(self):
        """Reads the names of the modules that are used; the line stands only if there is one."""
        line = self.begun(0, "uses")
        found = line.read_names()
        line.finish()
        if not found:
            self.refuse()
        return found

    def read_kind(self):
        """Reads a declared kind."""
        line = self.begun(0, "kind")
        line.take(" ")
        name = line.read_name()
        return (name, read_variants(line))

    def read_door(self):
        """Reads a door."""
        line = self.begun(0, "door")
        line.take(" ")
        name = line.read_name()
        fields = line.read_bracketed(False)
        line.take(" ")
        kind = line.read_kind_word()
        line.finish()
        return (name, fields, kind)

    def read_key(self):
        """Reads a key."""
        line = self.begun(0, "key")
        line.take(" ")
        name = line.read_name()
        line.take(" ")
        kind = line.read_kind_word()
        line.finish()
        return (name, kind)

    def read_function(self):
        """Reads a function."""
        line = self.begun(0, "function")
        line.take(" ")
        name = line.read_name()
        params = line.read_bracketed(True)
        line.take(" ")
        result = line.read_kind_word()
        line.finish()
        inner = self.read_inner() if self.comes(1, "local") else ()
        return (name, params, inner, result, self.read_body(1))

    def read_inner(self):
        """Reads the local variables of a function; the line stands only if there is one."""
        line = self.begun(1, "local")
        found = []
        while not line.is_read() or not found:
            line.take(" ")
            found.append(line.read_variable())
        return tuple(found)

    def read_body(self, depth):
        """Reads the statements of a body with so many bodies around, itself counted."""
        found = []
        word = self.next_word(depth)
        while word is not None:
            found.append(self.read_statement(depth, word))
            word = self.next_word(depth)
        return tuple(found)

    def next_word(self, depth):
        """The word of the statement in the next line, None if none comes there."""
        for word in SHAPES:
            if self.comes(depth, word):
                return word
        return None

    def read_statement(self, depth, word):
        """Reads a statement with its bodies."""
        line = self.begun(depth, word)
        shape = SHAPES[word]
        if "body" in shape and depth == DEEPEST_BODY:
            self.refuse()
        items = [read_item(line, what) for what in shape if what not in BODY_ITEMS]
        line.finish()
        inner = self.read_bodies(depth, shape)
        return (word, *items, *inner)

    def read_bodies(self, depth, shape):
        """Reads the items of a statement that contain its bodies."""
        found = []
        for what in shape:
            if what == "body" and found:
                self.read_else(depth)
            if what == "body":
                found.append(self.read_body(depth + 1))
            if what == "cases":
                found.append(self.read_cases(depth))
            if what == "handlers":
                found.append(self.read_handlers(depth))
        return found

    def read_else(self, depth):
        """Reads the line between two bodies."""
        line = self.begun(depth, "else")
        line.finish()

    def read_cases(self, depth):
        """Reads the cases of a match; the body of one is a body more within each other."""
        found = []
        while self.comes(depth, "case"):
            line = self.begun(depth, "case")
            if depth == DEEPEST_BODY:
                self.refuse()
            line.take(" ")
            tag = line.read_tag()
            names = line.read_names()
            line.finish()
            found.append((tag, names, self.read_body(depth + 1)))
        return tuple(found)

    def read_handlers(self, depth):
        """Reads the handlers of a try."""
        found = []
        while self.comes(depth, "on"):
            line = self.begun(depth, "on")
            line.take(" ")
            error = line.read_name()
            line.finish()
            found.append((error, self.read_body(depth + 1)))
        return tuple(found)
