"""Reading one line of a text, word by word."""

from heldover.errors import InvalidText
from heldover.expressions import LEVELS, LONGEST_INTEGER, PAIR_OPERATORS
from heldover.values import BASIC_KINDS, is_decimal, is_label, is_name, is_tag

# No word contains one of these.
SEPARATORS = " (),:"
NO_LABEL = "-"


class Line:
    """A line, read from the left to the right; whatever does not stand where it must is refused."""

    def __init__(self, content, number):
        self.content = content
        self.number = number
        self.at = 0

    def sees(self, sign):
        """Whether the rest of the line begins with this."""
        return self.content.startswith(sign, self.at)

    def is_read(self):
        """Whether the line is read to its end."""
        return self.at == len(self.content)

    def take(self, sign):
        """Reads exactly this."""
        if not self.sees(sign):
            raise InvalidText(self.number)
        self.at += len(sign)

    def finish(self):
        """Refuses the line if something is left of it."""
        if not self.is_read():
            raise InvalidText(self.number)

    def read_word(self):
        """Reads the characters up to the next separator."""
        begin = self.at
        while not self.is_read() and self.content[self.at] not in SEPARATORS:
            self.at += 1
        return self.content[begin:self.at]

    def read_name(self):
        """Reads a NAME."""
        found = self.read_word()
        if not is_name(found):
            raise InvalidText(self.number)
        return found

    def read_tag(self):
        """Reads a TAG."""
        found = self.read_word()
        if not is_tag(found):
            raise InvalidText(self.number)
        return found

    def read_kind_word(self):
        """Reads a basic kind or any NAME."""
        found = self.read_word()
        if found not in BASIC_KINDS and not is_name(found):
            raise InvalidText(self.number)
        return found

    def read_label(self):
        """Reads a label, or what stands for the label ""."""
        found = self.read_word()
        if found == NO_LABEL:
            return ""
        if not is_label(found):
            raise InvalidText(self.number)
        return found

    def read_rounds(self):
        """Reads a number of rounds."""
        found = self.read_word()
        if not is_decimal(found, 1) or found == "0":
            raise InvalidText(self.number)
        return int(found)

    def read_integer(self):
        """Reads an integer in decimal."""
        found = self.read_word()
        digits = found.removeprefix("-")
        if not is_decimal(digits, LONGEST_INTEGER) or found == "-0":
            raise InvalidText(self.number)
        return int(found)

    def read_expression(self, levels=LEVELS):
        """Reads an expression of at most so many levels."""
        if levels == 0:
            raise InvalidText(self.number)
        if self.sees("("):
            return self.read_brackets(levels)
        begin = self.at
        found = self.read_word()
        if found in ("true", "false"):
            return found == "true"
        if found == "self":
            return ("self",)
        if is_name(found):
            return found
        self.at = begin
        return self.read_integer()

    def read_brackets(self, levels):
        """Reads an expression in brackets."""
        self.take("(")
        word = self.read_word()
        if not is_tag(word) and word != "not" and word not in PAIR_OPERATORS:
            raise InvalidText(self.number)
        operands = self.read_expressions(levels - 1)
        self.take(")")
        if is_tag(word):
            return ("tag", word, *operands)
        if len(operands) != (1 if word == "not" else 2):
            raise InvalidText(self.number)
        return (word, *operands)

    def read_expressions(self, levels=LEVELS):
        """Reads expressions, as many as there are, each behind a space."""
        found = []
        while self.sees(" "):
            self.take(" ")
            found.append(self.read_expression(levels))
        return tuple(found)

    def read_names(self):
        """Reads NAMES, as many as there are, each behind a space."""
        found = []
        while self.sees(" "):
            self.take(" ")
            found.append(self.read_name())
        return tuple(found)

    def read_variable(self):
        """Reads a variable with its kind."""
        found = self.read_name()
        self.take(":")
        return (found, self.read_kind_word())

    def read_bracketed(self, named):
        """Reads kinds between brackets, with commas between them; if named, variables with their kinds."""
        found = []
        self.take("(")
        while not self.sees(")"):
            if found:
                self.take(",")
            found.append(self.read_variable() if named else self.read_kind_word())
        self.take(")")
        return tuple(found)
