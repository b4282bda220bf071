"""What is known on a path: conditions, and what nodes become by them."""

from heldover.nodes import DEEPEST_LOOK, FALSE, TRUE


class Facts:
    """Conditions that hold together; impossible if no values meet them all."""

    def __init__(self, nodes):
        self.nodes = nodes
        self.truths = {}
        self.known = {}
        self.impossible = False

    def with_truth(self, number, truth):
        """Facts that know that this node is true, or false, too."""
        found = Facts(self.nodes)
        found.truths = dict(self.truths)
        found.impossible = self.impossible
        found.learn(number, truth)
        return found

    def learn(self, number, truth):
        """Adds a condition, and what follows from it for those that were there before."""
        pending = [(number, truth)]
        while pending and not self.impossible:
            number, truth = pending.pop()
            number = self.rewritten(number)
            if number in (TRUE, FALSE):
                self.impossible = (number == TRUE) != truth
                continue
            atom, positive = self.nodes.base(number)
            self.truths[atom] = truth == positive
            self.known = {}
            pending.extend(self.changed_by(atom))

    def changed_by(self, atom):
        """Takes away the other conditions that can be rewritten now, and returns them."""
        found = []
        for other in list(self.truths):
            if other == atom or self.has_firm_children(other):
                continue
            truth = self.truths.pop(other)
            self.known = {}
            if self.rewritten(other) != other:
                found.append((other, truth))
            else:
                self.truths[other] = truth
            self.known = {}
        return found

    def has_firm_children(self, number):
        """Whether no condition changes what is within a node."""
        return all([self.nodes.firm[child] for child in self.nodes.children(number)])

    def truth_of(self, number):
        """The truth of a node by a condition, None if there is none."""
        atom, positive = self.nodes.base(number)
        truth = self.truths.get(atom)
        return None if truth is None else truth == positive

    def rewritten(self, number):
        """What a node becomes by the conditions."""
        if self.nodes.firm[number] or not self.truths:
            return number
        if number not in self.known:
            found = number if self.nodes.depths[number] > DEEPEST_LOOK else self.made_anew(number)
            if self.nodes.kind_list[found] == "bool" and found not in (TRUE, FALSE):
                found = self.by_condition(found)
            self.known[number] = found
        return self.known[number]

    def by_condition(self, number):
        """The truth of a node, if a condition tells it, otherwise the node."""
        truth = self.truth_of(number)
        if truth is None and self.nodes.word_of(number) == "is":
            tag = self.nodes.descriptions[number][1][0]
            known = self.tag_of(self.nodes.children(number)[0])
            truth = None if known is None else known == tag
        return number if truth is None else self.nodes.truth(truth)

    def made_anew(self, number):
        """A node with what its children become."""
        word, texts, numbers, children = self.nodes.descriptions[number]
        if self.has_firm_children(number):
            return number
        children = [self.rewritten(child) for child in children]
        if word == "tag":
            return self.nodes.tagged(texts[0], children)
        if word == "is":
            return self.nodes.asked(texts[0], children[0])
        if word == "part":
            return self.nodes.part(texts[0], numbers[0], children[0])
        return self.nodes.operated((word,), children)

    def tag_of(self, number):
        """The tag that a node of a declared kind is known to have, or None."""
        if self.nodes.word_of(number) == "tag":
            return self.nodes.descriptions[number][1][0]
        variants = self.nodes.variant_table.get(self.nodes.kind_list[number], ())
        open_tags = []
        for tag, _ in variants:
            asked = self.nodes.asked(tag, number)
            truth = True if asked == TRUE else self.truths.get(asked)
            if truth:
                return tag
            if truth is None:
                open_tags.append(tag)
        return open_tags[0] if len(open_tags) == 1 else None


def operated_node(nodes, facts, head, children):
    """The node of an operation on nodes, None if the operation is not defined."""
    word = head[0]
    if word == "tag":
        return nodes.tagged(head[1], children)
    if word not in ("is", "part"):
        return nodes.operated(head, children)
    number = facts.rewritten(children[0])
    variants = nodes.variant_table.get(nodes.kind_list[number], ())
    if word == "is":
        return nodes.asked(head[1], number) if head[1] in [tag for tag, _ in variants] else None
    tag = facts.tag_of(number)
    if tag is None or head[1] >= len(nodes.tag_table[tag][1]):
        return None
    return nodes.part(tag, head[1], number)
