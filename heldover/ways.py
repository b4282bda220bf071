"""The ends of blocks: what they read, what they give, and where they lead."""


def operands_read(end):
    """The operands of an end."""
    word = end[0]
    if word in ("branch", "return", "sleep"):
        return [end[1]]
    if word == "become":
        return list(end[2])
    if word in ("call", "ask", "start"):
        return list(end[3])
    return [end[1], end[3]] if word == "send" else []


def reads(end):
    """The sorted list of the slots that an end reads in its operands."""
    return sorted(set([operand[1] for operand in operands_read(end) if operand[0] == "slot"]))


def gives(end):
    """The sorted list of the slots that an end gives."""
    if end[0] in ("call", "ask", "receive", "start"):
        return [] if end[1] is None else [end[1]]
    return sorted([*end[3], *end[4]]) if end[0] == "both" else []


def error_blocks(end):
    """The blocks of the errors of an end."""
    return [block for _, block in end[-1]] if end[0] in ("call", "both") else []


def next_blocks(end):
    """The blocks to which an end leads other than by errors and into the bodies of a both."""
    word = end[0]
    if word in ("return", "raise", "become", "done"):
        return []
    if word == "branch":
        return [end[2], end[3]]
    if word == "mark":
        return [end[1], end[2]]
    if word == "call":
        return [end[4]]
    return [end[5]] if word == "both" else [end[-1]]


def inner_targets(end):
    """The blocks to which ways lead from an end, other than into the bodies of a both."""
    return [*next_blocks(end), *error_blocks(end)]


def targets(end):
    """The blocks to which ways lead from an end: all that it names."""
    bodies = end[1:3] if end[0] == "both" else ()
    return [*bodies, *inner_targets(end)]
