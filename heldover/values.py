"""Words, kinds and values."""

from heldover.errors import InvalidKinds, UnknownName

RESERVED = (
    "add", "and", "ask", "become", "bool", "both", "break", "call", "case", "div", "door", "else", "false",
    "function", "if", "int", "key", "kind", "less", "local", "loop", "match", "mod", "module", "mul", "not", "on",
    "or", "raise", "receive", "return", "same", "self", "send", "set", "since", "sleep", "start", "sub", "task",
    "true", "try", "uses",
)
BASIC_KINDS = ("int", "bool", "task")
BASIC_ZEROS = {"int": 0, "bool": False, "task": ""}
SMALL_LETTERS = "abcdefghijklmnopqrstuvwxyz"
LARGE_LETTERS = "ABCDEFGHIJKLMNOPQRSTUVWXYZ"
DIGITS = "0123456789"
LONGEST_WORD = 8
LABEL_DIGITS = 2
LONGEST_TASK_STRING = 200
# The codes of the double quote, the percent sign and the backslash.
BARRED_CODES = (34, 37, 92)
MOST_VARIANTS = 6
MOST_FIELDS = 3
DEEPEST_KIND = 12


def is_integer(value):
    """Whether it is an int that is not a bool."""
    return isinstance(value, int) and not isinstance(value, bool)


def consists_of(text, signs):
    """Whether each character of the text is one of the signs."""
    return all([sign in signs for sign in text])


def is_name(value):
    """Whether it is a NAME."""
    if not isinstance(value, str) or not 1 <= len(value) <= LONGEST_WORD:
        return False
    return value.isascii() and value.isalpha() and value.islower() and value not in RESERVED


def is_tag(value):
    """Whether it is a TAG."""
    if not isinstance(value, str) or not 1 <= len(value) <= LONGEST_WORD:
        return False
    return value[0] in LARGE_LETTERS and consists_of(value[1:], SMALL_LETTERS)


def is_decimal(text, most):
    """Whether the text is that of an integer from 0 on, without leading zeros, with at most so many digits."""
    if not 1 <= len(text) <= most or not consists_of(text, DIGITS):
        return False
    return text == "0" or text[0] != "0"


def is_label(value):
    """Whether it is a LABEL."""
    if is_name(value):
        return True
    return isinstance(value, str) and is_decimal(value, LABEL_DIGITS) and value != "0"


def is_task_string(value):
    """Whether it is a TASK STRING."""
    if not isinstance(value, str) or len(value) > LONGEST_TASK_STRING:
        return False
    return all([" " <= sign <= "~" and ord(sign) not in BARRED_CODES for sign in value])


def first_name(value):
    """The NAME with which a tuple begins, or None."""
    if isinstance(value, tuple) and value and is_name(value[0]):
        return value[0]
    return None


def are_kind_words(value, most):
    """Whether it is a tuple of at most so many strings."""
    return isinstance(value, tuple) and len(value) <= most and all([isinstance(word, str) for word in value])


def has_variant_form(value):
    """Whether it is a tuple (tag, fields)."""
    if not isinstance(value, tuple) or len(value) != 2:
        return False
    return is_tag(value[0]) and are_kind_words(value[1], MOST_FIELDS)


def has_kind_form(value):
    """Whether it is a tuple (name, variants) by its form; the fields may be any strings."""
    if not isinstance(value, tuple) or len(value) != 2 or not is_name(value[0]):
        return False
    variants = value[1]
    if not isinstance(variants, tuple) or not 1 <= len(variants) <= MOST_VARIANTS:
        return False
    return all([has_variant_form(variant) for variant in variants])


def fields_of(declared):
    """The fields of all variants of a declared kind, in their order."""
    return [field for _, fields in declared[1] for field in fields]


def kind_depth(declared, depths):
    """How many declared kinds lie within each other in this one."""
    return 1 + max([depths.get(field, 0) for field in fields_of(declared)], default=0)


def repeats_tag(declared, tags):
    """Whether a tag of a declared kind is among these tags, or occurs twice."""
    own = [tag for tag, _ in declared[1]]
    return any([tag in tags for tag in own]) or len(set(own)) < len(own)


def kind_problem(item, names, tags, depths):
    """The first problem of a declared kind, or None.

    names and tags have as keys those that are used before, depths the visible kinds with their depths.
    """
    if not has_kind_form(item):
        return "form"
    if item[0] in names:
        return "name"
    if repeats_tag(item, tags):
        return "tag"
    if not all([field in BASIC_KINDS or field in depths for field in fields_of(item)]):
        return "kind"
    if kind_depth(item, depths) > DEEPEST_KIND:
        return "limit"
    return None


def fits_kind(table, kind, value):
    """Whether it is a value of the kind; table has the fields of each tag for each declared kind."""
    if kind == "int":
        return is_integer(value)
    if kind == "bool":
        return isinstance(value, bool)
    if kind == "task":
        return is_task_string(value)
    if not isinstance(value, tuple) or not value or not isinstance(value[0], str):
        return False
    fields = table[kind].get(value[0])
    if fields is None or len(value) != len(fields) + 1:
        return False
    return all([fits_kind(table, field, part) for field, part in zip(fields, value[1:])])


def alike_kinds(here, kind, there, other, known):
    """Whether two kinds are alike; known keeps what was found, as kinds may share their fields many times."""
    if kind in BASIC_KINDS or other in BASIC_KINDS:
        return kind == other
    if (kind, other) not in known:
        known[kind, other] = alike_variants(here, here.variants(kind), there, there.variants(other), known)
    return known[kind, other]


def alike_variants(here, ours, there, theirs, known):
    """Whether there are the same tags in the same order, with alike fields."""
    if [(tag, len(fields)) for tag, fields in ours] != [(tag, len(fields)) for tag, fields in theirs]:
        return False
    for (_, fields), (_, others) in zip(ours, theirs):
        for field, other in zip(fields, others):
            if not alike_kinds(here, field, there, other, known):
                return False
    return True


class Kinds:
    """Declared kinds, beside the basic ones."""

    def __init__(self, declared=()):
        if not isinstance(declared, (list, tuple)):
            raise InvalidKinds("kinds", None)
        self._variants = {}
        self._fields = {}
        self._zeros = dict(BASIC_ZEROS)
        tags, depths = {}, {}
        for item in declared:
            problem = kind_problem(item, depths, tags, depths)
            if problem is not None:
                raise InvalidKinds(problem, first_name(item))
            name, variants = item
            depths[name] = kind_depth(item, depths)
            self._variants[name] = variants
            self._fields[name] = {tag: fields for tag, fields in variants}
            for tag, _ in variants:
                tags[tag] = True
            tag, fields = variants[0]
            self._zeros[name] = (tag, *[self._zeros[field] for field in fields])
        self._declared = tuple(declared)

    def names(self):
        """The names of the declared kinds, in their order."""
        return list(self._variants)

    def variants(self, kind):
        """The tuple of the variants of a declared kind."""
        if kind not in self:
            raise UnknownName(kind)
        return self._variants[kind]

    def is_kind(self, value):
        """Whether it is a basic kind or a declared one."""
        return isinstance(value, str) and value in self._zeros

    def is_value(self, kind, value):
        """Whether it is a value of the kind."""
        if not self.is_kind(kind):
            raise UnknownName(kind)
        return fits_kind(self._fields, kind, value)

    def zero(self, kind):
        """The zero of the kind."""
        if not self.is_kind(kind):
            raise UnknownName(kind)
        return self._zeros[kind]

    def alike(self, kind, other, *, kinds=None):
        """Whether the kind and another one, of these kinds or of those that are passed, are alike."""
        there = self if kinds is None else kinds
        if not self.is_kind(kind):
            raise UnknownName(kind)
        if not there.is_kind(other):
            raise UnknownName(other)
        return alike_kinds(self, kind, there, other, {})

    def __eq__(self, other):
        return isinstance(other, Kinds) and self._declared == other._declared

    def __len__(self):
        return len(self._variants)

    def __contains__(self, x):
        return isinstance(x, str) and x in self._variants
