"""Making nodes of terms and of expressions."""

from heldover.expressions import operands_of
from heldover.facts import operated_node
from heldover.operations import head_of, inner_of
from heldover.termforms import has_operands


def built(facts, term, table):
    """The node of a term, with the nodes of its unknowns; None if it is not defined."""
    nodes = facts.nodes
    if term[0] == "value":
        return nodes.datum(term[1])
    if term == ("self",):
        return nodes.node("self", (), (), (), "task")
    if not has_operands(term):
        return table.get(term)
    children = [built(facts, operand, table) for operand in inner_of(term)]
    if any([child is None for child in children]):
        return None
    return operated_node(nodes, facts, head_of(term), children)


def expressed(facts, expression, path, table):
    """The node of an expression of the text, with the nodes of variables; path is that of its function."""
    nodes = facts.nodes
    if isinstance(expression, str):
        return table["var", path, expression]
    if not isinstance(expression, tuple):
        return nodes.datum(expression)
    if expression == ("self",):
        return nodes.node("self", (), (), (), "task")
    operands = operands_of(expression)
    children = [expressed(facts, operand, path, table) for operand in operands]
    return operated_node(nodes, facts, expression[:len(expression) - len(operands)], children)


def substituted(facts, number, table):
    """A node with other nodes for some unknowns; the table has those of unknown nodes."""
    nodes = facts.nodes
    if number in table:
        return table[number]
    word, texts, numbers, children = nodes.descriptions[number]
    if word == "sum":
        whole = nodes.integer(0)
        for factors, count in nodes.sums[number]:
            product = nodes.integer(count)
            for factor in factors:
                product = nodes.multiplied(product, substituted(facts, factor, table))
            whole = nodes.added(whole, product)
        return whole
    if not children:
        return nodes.as_sum(number)
    changed = [substituted(facts, child, table) for child in children]
    if word == "above":
        return nodes.positive(changed[0])
    if word == "nought":
        return nodes.nought(changed[0])
    if word == "product":
        return nodes.multiplied(changed[0], changed[1])
    if word == "part":
        return nodes.part(texts[0], numbers[0], changed[0])
    return operated_node(nodes, facts, (word, *texts), changed)


def contains(nodes, number, wanted):
    """Whether a node stands somewhere in another one."""
    if number == wanted:
        return True
    return any([contains(nodes, child, wanted) for child in nodes.children(number)])
