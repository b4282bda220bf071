"""The compiler: each position of the text gets a point, and no call is inlined."""

from heldover.codes import BEHIND_BOTH, BODY_ENDS
from heldover.effects import errors_of_body
from heldover.errors import UnknownName
from heldover.making import Maker, Site
from heldover.syntax import set_in


def compile_body(maker, body, site):
    """Compiles the statements of a body."""
    for statement in body:
        action = ACTIONS[statement[0]]
        action(maker, statement, site)


def compile_into(maker, block, body, site, behind):
    """Compiles a body from a block on, and goes to the block behind it."""
    maker.begin(block)
    compile_body(maker, body, site)
    maker.jump_to(behind)


def compile_set(maker, statement, site):
    """x becomes the value."""
    maker.add_operation(maker.slot_of[statement[1]], statement[2], maker.first_spare)


def compile_if(maker, statement, site):
    """A branch to one of two blocks."""
    operand = maker.operand_for(statement[1], maker.first_spare)
    one, other, behind = maker.add_block(None), maker.add_block(None), maker.add_block(None)
    maker.finish(("branch", operand, one, other))
    compile_into(maker, one, statement[2], site, behind)
    compile_into(maker, other, statement[3], site, behind)
    maker.begin(behind)


def compile_match(maker, statement, site):
    """Asks for one tag after the other; the last one needs no question."""
    operand = maker.operand_for(statement[1], maker.first_spare)
    asked = maker.first_spare + 1
    blocks = [maker.add_block(None) for _ in statement[2]]
    behind = maker.add_block(None)
    for (tag, _, _), block in list(zip(statement[2], blocks))[:-1]:
        maker.add_step(asked, ("is", tag, operand))
        further = maker.add_block(None)
        maker.finish(("branch", ("slot", asked), block, further))
        maker.begin(further)
    maker.jump_to(blocks[-1])
    for (_, names, body), block in zip(statement[2], blocks):
        maker.begin(block)
        for number, name in enumerate(names):
            maker.add_step(maker.slot_of[name], ("part", number, operand))
        compile_body(maker, body, site)
        maker.jump_to(behind)
    maker.begin(behind)


def compile_loop(maker, statement, site):
    """A head that is a point; the round is in a slot of its own."""
    _, label, rounds, body = statement
    if not body:
        # Rounds of nothing have no effect, but their blocks would count for the limit of an execution.
        return
    slot = maker.round_slot(site)
    behind = maker.add_block(None)
    inside = site.in_loop(label, slot, behind)
    head = maker.add_point(inside.parts, inside, {})
    maker.add_step(slot, ("value", 0))
    maker.jump_to(head)
    maker.begin(head)
    maker.add_step(maker.first_spare, ("less", ("slot", slot), ("value", rounds)))
    block = maker.add_block(None)
    maker.finish(("branch", ("slot", maker.first_spare), block, behind))
    maker.begin(block)
    compile_body(maker, body, inside)
    if maker.here is not None:
        maker.add_step(slot, ("add", ("slot", slot), ("value", 1)))
    maker.jump_to(head)
    maker.begin(behind)


def compile_break(maker, statement, site):
    """Goes to the block behind the loop."""
    maker.jump_to(site.behind)


def compile_return(maker, statement, site):
    """Ends the function."""
    maker.finish(("return", maker.operand_for(statement[1], maker.first_spare)))


def compile_raise(maker, statement, site):
    """Goes to the handler, if there is one here; otherwise the error gets out."""
    handler = site.handler(statement[1])
    maker.finish(("raise", statement[1]) if handler is None else ("jump", handler))


def compile_become(maker, statement, site):
    """Ends the run."""
    operands, _ = maker.operands_for(statement[2], maker.first_spare)
    maker.finish(("become", statement[1], operands))


def compile_try(maker, statement, site):
    """The beginning of each handler is a point."""
    _, label, body, handlers = statement
    blocks = [maker.add_point(site.place(label, number), site, {}) for number in range(1, len(handlers) + 1)]
    behind = maker.add_block(None)
    caught = [(error, block) for (error, _), block in zip(handlers, blocks)]
    compile_body(maker, body, site.in_try(label, caught))
    maker.jump_to(behind)
    for number, ((_, handler), block) in enumerate(zip(handlers, blocks), start=1):
        compile_into(maker, block, handler, site.in_handler(label, number), behind)
    maker.begin(behind)


def stand_at(maker, label, site, held):
    """Goes to a new point for a statement that may wait, and returns a block for what is behind it."""
    block = maker.add_point(site.place(label), site, held)
    maker.jump_to(block)
    maker.begin(block)
    return maker.add_block(None)


def compile_call(maker, statement, site):
    """Calls the function; its errors lead to the handlers here."""
    _, label, variable, function, expressions = statement
    operands, held = maker.operands_for(expressions, maker.first_spare)
    errors = [effect[1] for effect in maker.version.effects(function) if effect[0] == "raise"]
    behind = stand_at(maker, label, site, held)
    slot = maker.slot_of[variable]
    maker.finish(("call", slot, function, operands, behind, site.handlers(errors)))
    maker.begin(behind)


def compile_ask(maker, statement, site):
    """Asks the world, or starts a task."""
    word, label, variable, name, expressions = statement
    operands, held = maker.operands_for(expressions, maker.first_spare)
    behind = stand_at(maker, label, site, held)
    maker.finish((word, maker.slot_of[variable], name, operands, behind))
    maker.begin(behind)


def compile_send(maker, statement, site):
    """Sends a message."""
    _, label, receiver, key, value = statement
    operands, held = maker.operands_for((receiver, value), maker.first_spare)
    behind = stand_at(maker, label, site, held)
    maker.finish(("send", operands[0], key, operands[1], behind))
    maker.begin(behind)


def compile_receive(maker, statement, site):
    """Receives a message."""
    _, label, variable, key = statement
    behind = stand_at(maker, label, site, {})
    maker.finish(("receive", maker.slot_of[variable], key, behind))
    maker.begin(behind)


def compile_sleep(maker, statement, site):
    """Waits for a moment."""
    operands, held = maker.operands_for(statement[2:], maker.first_spare)
    behind = stand_at(maker, statement[1], site, held)
    maker.finish(("sleep", operands[0], behind))
    maker.begin(behind)


def compile_since(maker, statement, site):
    """A mark with its two arms."""
    _, label, new, old = statement
    behind = stand_at(maker, label, site, {})
    one, other = maker.add_block(None), maker.add_block(None)
    maker.finish(("mark", one, other))
    compile_into(maker, one, new, site, behind)
    compile_into(maker, other, old, site, behind)
    maker.begin(behind)


def compile_both(maker, statement, site):
    """Two bodies, each of which ends at a point; what a body sets is taken over from it."""
    _, label, *bodies = statement
    effects = {name: maker.version.effects(name) for name in maker.version.names()}
    errors = sorted(set([error for body in bodies for error in errors_of_body(body, effects)]))
    taken = [tuple([maker.slot_of[name] for name in set_in(body)]) for body in bodies]
    block = maker.add_point(site.place(label), site, {})
    behind = maker.add_point(site.place(label, BEHIND_BOTH), site, {})
    firsts = [maker.add_block(None), maker.add_block(None)]
    maker.jump_to(block)
    maker.begin(block)
    maker.finish(("both", firsts[0], firsts[1], taken[0], taken[1], behind, site.handlers(errors)))
    for number, body in enumerate(bodies):
        done = maker.add_point(site.place(label, BODY_ENDS[number]), site, {})
        compile_into(maker, firsts[number], body, site.in_both(label, number), done)
        maker.begin(done)
        maker.finish(("done",))
    maker.begin(behind)


ACTIONS = {
    "set": compile_set, "if": compile_if, "match": compile_match, "loop": compile_loop, "break": compile_break,
    "return": compile_return, "raise": compile_raise, "try": compile_try, "call": compile_call, "ask": compile_ask,
    "send": compile_send, "receive": compile_receive, "sleep": compile_sleep, "start": compile_ask,
    "both": compile_both, "since": compile_since, "become": compile_become,
}


def compiled(version, function):
    """The code and the map of a function."""
    if function not in version:
        raise UnknownName(function)
    maker = Maker(version, function)
    kinds = version.kinds()
    for variable, kind in maker.inner:
        maker.add_step(maker.slot_of[variable], ("value", kinds.zero(kind)))
    compile_body(maker, maker.body, Site())
    maker.finish(("return", ("value", kinds.zero(maker.result))))
    return (maker.made_code(), maker.made_map())


def compiled_all(version):
    """The codes and the maps of all functions."""
    codes, maps = {}, {}
    for function in version.names():
        codes[function], maps[function] = compiled(version, function)
    return (codes, maps)
