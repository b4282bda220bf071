"""Terms in their normal form, each as a number.

A node is described by a tuple (word, texts, numbers, children); children are numbers of other nodes. An integer is
always a "sum" of products of other nodes, so that the rules of arithmetic need no search: numbers are the coefficient
and the length of each product, one after the other, and children are the factors of all of them. A value of a
declared kind is a "tag" node like any other tag. Operands that may be exchanged, and the products of a sum, stand in
the order of nodes: by word, texts and numbers, and where these are the same by the first children that differ. So no
two nodes share a place in it, and it does not depend on the order in which nodes were made.
"""

from heldover.expressions import INTEGER_OPERATORS, operate
from heldover.values import is_integer, is_task_string

# Beyond these a product is not multiplied out: products in the result, factors in one, bits of a coefficient.
MOST_PRODUCTS = 1000
MOST_FACTORS = 110
MOST_BITS = 100000
# Conditions are not used in a node with more nodes within each other that they may change: only large terms have such.
DEEPEST_LOOK = 100
TRUE = 0
FALSE = 1


def first_difference(ours, theirs):
    """The first two items at the same place of two tuples that are not equal."""
    for one, other in zip(ours, theirs):
        if one != other:
            return one, other
    return None


class Nodes:
    """All nodes that were made for one version."""

    def __init__(self, version):
        kinds = version.kinds()
        self.variant_table = {kind: kinds.variants(kind) for kind in kinds.names()}
        self.tag_table = {}
        for kind, variants in self.variant_table.items():
            for tag, fields in variants:
                self.tag_table[tag] = (kind, fields)
        self.numbers = {}
        self.descriptions = []
        self.kind_list = []
        self.firm = []
        self.depths = []
        self.sums = {}
        self.opaque = False
        self.node("true", (), (), (), "bool")
        self.node("false", (), (), (), "bool")

    def node(self, word, texts, numbers, children, kind):
        """The number of the node with this description."""
        key = (word, texts, numbers, children)
        found = self.numbers.get(key)
        if found is not None:
            return found
        number = len(self.descriptions)
        self.numbers[key] = number
        self.descriptions.append(key)
        self.kind_list.append(kind)
        # Only truths are changed by conditions; no integer has a truth within it.
        firm = all([self.firm[child] for child in children]) and (kind != "bool" or word in ("true", "false"))
        self.firm.append(kind == "int" or firm)
        # What is firm has no depth, as nothing in it is looked into: integers may be nested as deep as they like.
        depth = 1 + max([self.depths[child] for child in children], default=0)
        self.depths.append(0 if self.firm[number] else depth)
        return number

    def precedes(self, one, other):
        """Whether a node stands before another one in the order of nodes."""
        while one != other:
            first, second = self.descriptions[one], self.descriptions[other]
            if first[:3] != second[:3]:
                return first[:3] < second[:3]
            # Every description is there only once, so some children differ.
            one, other = first_difference(first[3], second[3])
        return False

    def arranged(self, numbers):
        """The list of these nodes in the order of nodes."""
        found = []
        for number in numbers:
            low, high = 0, len(found)
            while low < high:
                middle = (low + high) // 2
                if self.precedes(found[middle], number):
                    low = middle + 1
                else:
                    high = middle
            found.insert(low, number)
        return found

    def factors_in(self, products):
        """The list of the factors of these products, each once, in the order of nodes."""
        return self.arranged(list({factor: True for factors in products for factor in factors}))

    def word_of(self, number):
        """The word of a node."""
        return self.descriptions[number][0]

    def children(self, number):
        """The children of a node."""
        return self.descriptions[number][3]

    def unknown(self, unknown, kind):
        """The node of an unknown of this kind."""
        word, *items = unknown
        if word == "slot":
            number = self.node(word, (kind,), (items[0],), (), kind)
        else:
            texts = (kind, items[1], *items[0]) if items else (kind,)
            number = self.node(word, texts, (), (), kind)
        return self.as_sum(number)

    def as_sum(self, number):
        """The node itself, or as a sum if it is an integer that is none."""
        if self.kind_list[number] != "int" or self.word_of(number) == "sum":
            return number
        return self.sum_of({(number,): 1})

    def sum_of(self, table):
        """The sum of a dict from tuples of factors, in order, to coefficients."""
        left = {factors: count for factors, count in table.items() if count != 0}
        places = {factor: place for place, factor in enumerate(self.factors_in(left))}
        rows = sorted([([places[factor] for factor in factors], factors) for factors in left])
        products = [(factors, left[factors]) for _, factors in rows]
        numbers, children = [], []
        for factors, count in products:
            numbers.extend([count, len(factors)])
            children.extend(factors)
        found = self.node("sum", (), tuple(numbers), tuple(children), "int")
        if found not in self.sums:
            self.sums[found] = tuple(products)
        return found

    def integer(self, value):
        """The node of an integer."""
        return self.sum_of({(): value})

    def truth(self, value):
        """The node of a truth."""
        return TRUE if value else FALSE

    def integer_of(self, number):
        """The integer that a sum is, None if it is no value."""
        products = self.sums[number]
        if not products:
            return 0
        return products[0][1] if len(products) == 1 and products[0][0] == () else None

    def datum(self, datum):
        """The node of a datum, None if it is of no kind of the version."""
        if isinstance(datum, bool):
            return self.truth(datum)
        if is_integer(datum):
            return self.integer(datum)
        if is_task_string(datum):
            return self.node("text", (datum,), (), (), "task")
        children = [self.datum(part) for part in datum[1:]]
        if any([child is None for child in children]):
            return None
        return self.tagged(datum[0], children)

    def is_value(self, number):
        """Whether the node is a value."""
        word = self.word_of(number)
        if word == "sum":
            return self.integer_of(number) is not None
        if word == "tag":
            return all([self.is_value(child) for child in self.children(number)])
        return word in ("true", "false", "text")

    def added(self, one, other, times=1):
        """The sum of one and so many times the other one."""
        table = {factors: count for factors, count in self.sums[one]}
        for factors, count in self.sums[other]:
            table[factors] = table.get(factors, 0) + times * count
        return self.sum_of(table)

    def multiplied(self, one, other):
        """The product."""
        ours, theirs = self.sums[one], self.sums[other]
        if self.is_too_large(ours, theirs):
            self.opaque = True
            return self.as_sum(self.node("product", (), (), tuple(self.arranged([one, other])), "int"))
        order = self.factors_in([factors for factors, _ in (*ours, *theirs)])
        places = {factor: place for place, factor in enumerate(order)}
        table = {}
        for factors, count in ours:
            for others, times in theirs:
                found = sorted([places[factor] for factor in (*factors, *others)])
                both = tuple([order[place] for place in found])
                table[both] = table.get(both, 0) + count * times
        return self.sum_of(table)

    def is_too_large(self, ours, theirs):
        """Whether the product of two sums is too large to be multiplied out."""
        if len(ours) * len(theirs) > MOST_PRODUCTS:
            return True
        for products in (ours, theirs):
            if any([count.bit_length() > MOST_BITS for _, count in products]):
                return True
        longest = [max([len(factors) for factors, _ in products], default=0) for products in (ours, theirs)]
        return longest[0] + longest[1] > MOST_FACTORS

    def arithmetic(self, word, one, other):
        """The node of an operation on integers with an integer as its value."""
        if word == "add":
            return self.added(one, other)
        if word == "sub":
            return self.added(one, other, -1)
        if word == "mul":
            return self.multiplied(one, other)
        values = [self.integer_of(one), self.integer_of(other)]
        if values[0] is not None and values[1] is not None:
            return self.integer(operate(word, values))
        return self.as_sum(self.node(word, (), (), (one, other), "int"))

    def is_above_rounds(self, number, sign):
        """Whether a sum, or its negative, is a sum of rounds and an integer above 0."""
        positive = False
        for factors, count in self.sums[number]:
            if sign * count < 0 or len(factors) > 1 or factors and self.word_of(factors[0]) != "round":
                return False
            positive = positive or not factors
        return positive

    def leads_with_minus(self, number):
        """Whether the first product of a sum that is no value has a coefficient below 0."""
        for factors, count in self.sums[number]:
            if factors:
                return count < 0
        return False

    def flipped(self, number):
        """One less the sum: it is above 0 if and only if the sum is not."""
        return self.added(self.integer(1), number, -1)

    def positive(self, number):
        """Whether a sum is above 0."""
        value = self.integer_of(number)
        if value is not None:
            return self.truth(value > 0)
        if self.is_above_rounds(number, 1):
            return TRUE
        if self.is_above_rounds(self.flipped(number), 1):
            return FALSE
        return self.node("above", (), (), (number,), "bool")

    def nought(self, number):
        """Whether a sum is 0."""
        value = self.integer_of(number)
        if value is not None:
            return self.truth(value == 0)
        if self.is_above_rounds(number, 1) or self.is_above_rounds(number, -1):
            return FALSE
        if self.leads_with_minus(number):
            number = self.added(self.integer(0), number, -1)
        return self.node("nought", (), (), (number,), "bool")

    def same(self, one, other):
        """Whether two nodes of one kind are equal."""
        if self.kind_list[one] == "int":
            return self.nought(self.added(one, other, -1))
        if one == other:
            return TRUE
        if self.is_value(one) and self.is_value(other):
            return FALSE
        return self.node("same", (), (), tuple(self.arranged([one, other])), "bool")

    def negated(self, number):
        """The negation."""
        if number in (TRUE, FALSE):
            return FALSE if number == TRUE else TRUE
        if self.word_of(number) == "not":
            return self.children(number)[0]
        if self.word_of(number) == "above":
            return self.positive(self.flipped(self.children(number)[0]))
        return self.node("not", (), (), (number,), "bool")

    def joined(self, word, one, other):
        """The conjunction or disjunction."""
        whole = TRUE if word == "and" else FALSE
        if one == whole or one == other:
            return other
        if other == whole:
            return one
        if one in (TRUE, FALSE) or other in (TRUE, FALSE):
            return FALSE if word == "and" else TRUE
        return self.node(word, (), (), tuple(self.arranged([one, other])), "bool")

    def tagged(self, tag, children):
        """The node of a tag with fields, None if they are not of its kinds."""
        if tag not in self.tag_table:
            return None
        kind, fields = self.tag_table[tag]
        if [self.kind_list[child] for child in children] != list(fields):
            return None
        return self.node("tag", (tag,), (), tuple(children), kind)

    def asked(self, tag, number):
        """Whether a node of a declared kind has this tag, by itself."""
        if self.word_of(number) == "tag":
            return self.truth(self.descriptions[number][1][0] == tag)
        if len(self.variant_table[self.kind_list[number]]) == 1:
            return TRUE
        return self.node("is", (tag,), (), (number,), "bool")

    def part(self, tag, place, number):
        """A field of a node that has this tag."""
        if self.word_of(number) == "tag" and self.descriptions[number][1][0] == tag:
            return self.children(number)[place]
        kind = self.tag_table[tag][1][place]
        return self.as_sum(self.node("part", (tag,), (place,), (number,), kind))

    def operated(self, head, children):
        """The node of an operation other than a tag, "is" and "part", None if an operand is not of its kind."""
        word = head[0]
        kinds = [self.kind_list[child] for child in children]
        if word in INTEGER_OPERATORS:
            return self.arithmetic(word, children[0], children[1]) if kinds == ["int", "int"] else None
        if word == "less":
            return self.positive(self.added(children[1], children[0], -1)) if kinds == ["int", "int"] else None
        if word == "same":
            return self.same(children[0], children[1]) if kinds[0] == kinds[1] else None
        if any([kind != "bool" for kind in kinds]):
            return None
        if word == "not":
            return self.negated(children[0])
        return self.joined(word, children[0], children[1])

    def base(self, number):
        """A truth without the negation before it, and whether there was none."""
        if self.word_of(number) == "not":
            return self.children(number)[0], False
        if self.word_of(number) == "above" and self.leads_with_minus(self.children(number)[0]):
            return self.negated(number), False
        return number, True
