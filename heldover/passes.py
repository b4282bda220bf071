"""Passes: each makes of the code and the map of a function another code and another map of it."""

from heldover.drafts import Draft
from heldover.errors import InvalidPass, UnknownName
from heldover.folding import fold
from heldover.hoisting import hoist
from heldover.inlining import inline
from heldover.joining import join_blocks
from heldover.propagation import propagate_copies, share_equals
from heldover.trimming import trim
from heldover.unrolling import unroll
from heldover.values import is_label

PASSES = ("constants", "copies", "equals", "dead", "hoist", "join")
LABELLED_PASSES = ("inline", "unroll")


def is_pass(value):
    """Whether it is a pass."""
    if isinstance(value, str):
        return value in PASSES
    if not isinstance(value, tuple) or len(value) != 2 or not isinstance(value[0], str):
        return False
    return value[0] in LABELLED_PASSES and is_label(value[1])


def apply_to(draft, one, version, codes, maps):
    """Lets a pass change a draft; returns whether the result keeps to the limits of maps."""
    if one == "constants":
        fold(draft)
    elif one == "copies":
        propagate_copies(draft)
    elif one == "equals":
        share_equals(draft)
    elif one == "dead":
        trim(draft, version)
    elif one == "hoist":
        return hoist(draft)
    elif one == "join":
        join_blocks(draft)
    elif one[0] == "inline":
        inline(draft, one[1], version, codes, maps)
    else:
        unroll(draft, one[1], version)
    return True


def apply_pass(one, version, codes, maps, function):
    """The code and the map that a pass makes of those of a function."""
    if not is_pass(one):
        raise InvalidPass(one)
    if function not in version:
        raise UnknownName(function)
    draft = Draft(codes[function], maps[function])
    return draft.made() if apply_to(draft, one, version, codes, maps) else draft.as_given()
