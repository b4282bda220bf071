"""All examples of the interface, as they stand in the document, one after the other."""

import contextlib
import doctest
import io
import unittest

EXAMPLES = """
>>> from heldover.versions import Version
>>> body = (("ask", "", "x", "price", ("n",)), ("if", ("less", "x", 10), (("return", "x"),), (("raise", "dear"),)))
>>> buy = ("buy", (("n", "int"),), (("x", "int"),), "int", body)
>>> shop = ("shop", (), (("color", (("Red", ()), ("Mix", ("int", "task")))),), (("price", ("int",), "int"),), (("orders", "color"),), (buy,))
>>> print(Version([shop]))
module shop
kind color Red Mix(int,task)
door price(int) int
key orders color
function buy(n:int) int
  local x:int
  ask 1 x price n
  if (less x 10)
    return x
  else
    raise dear

>>> from heldover.versions import Version
>>> from heldover.runs import Run
>>> buy = ("buy", (("n", "int"),), (("p", "int"), ("ok", "bool")), "int", (("ask", "a", "p", "price", ("n",)), ("both", "b", (("sleep", "w", 5),), (("receive", "r", "ok", "paid"),)), ("return", ("add", "p", "n"))))
>>> version = Version([("shop", (), (), (("price", ("int",), "int"),), (("paid", "bool"),), (buy,))])
>>> start = ("buy", (3,), 10)
>>> first = {(0, ("a", 0)): (("ask", "price", (3,)), 7, 12)}

>>> later = Run(version, "ann", 0, start, first)
>>> [later.state, later.end(), later.waits(), later.moment((0, ("b", 1), ("r", 0)))]
['closed', None, {(0, ('b', 0), ('w', 0)): ('sleep', 5), (0, ('b', 1), ('r', 0)): ('receive', 'paid')}, 12]

>>> from heldover.compiler import compiled_all
>>> codes, maps = compiled_all(version)
>>> double = ("buy", 1, 2, (((), ((1, ("add", ("slot", 0), ("slot", 0))),), ("jump", 1)), ((("a", 0),), (), ("ask", 1, "price", (("slot", 1),), 2)), (None, (), ("return", ("slot", 1)))))

>>> from heldover.execution import Execution
>>> other = Execution(version, {"buy": double}, "ann", 0, start, {})
>>> [other.waits(), other.frame(), other.blocks_done]
[{(0, ('a', 0)): ('ask', 'price', (6,))}, ('buy', ((3, 6), 1, None)), 2]

>>> from heldover.terms import Terms
>>> x, y, one = ("var", (), "x"), ("var", (), "y"), ("value", 1)
>>> terms = Terms(version, {x: "int", y: "int"})
>>> [terms.same_terms(("mul", ("add", x, one), ("sub", x, one)), ("sub", ("mul", x, x), one)), terms.same_terms(("less", x, y), ("not", ("less", y, ("add", one, x)))), terms.same_terms(x, y)]
[True, True, False]

>>> from heldover.judge import judge
>>> judge(version, "buy", codes["buy"], maps["buy"]) is None
True

>>> from heldover.liveness import needed_variables
>>> from heldover.ways import gives, reads
>>> end = ("ask", 1, "price", (("slot", 0), ("value", 3)), 2)
>>> [reads(end), gives(end), needed_variables(version, "buy", (("b", 0),))]
[[0], [1], [('var', (), 'n'), ('var', (), 'p')]]

>>> from heldover.passes import apply_pass
>>> code, code_map = apply_pass("dead", version, codes, maps, "buy")
>>> judge(version, "buy", code, code_map) is None
True

>>> from heldover.pipelines import Pipeline, optimized
>>> line = Pipeline("constants", "dead") + Pipeline("join")
>>> [line, len(line), "join" in line, Pipeline(("unroll", "k")).passes]
[Pipeline('constants', 'dead', 'join'), 3, True, (('unroll', 'k'),)]

>>> from heldover.machine import Machine
>>> pay = ("pay", (("n", "int"),), (("x", "int"),), "int", (("ask", "a", "x", "price", ("n",)), ("send", "m", ("self",), "paid", "x"), ("receive", "r", "x", "paid"), ("return", ("add", "x", 1))))
>>> machine = Machine(Version([("shop", (), (), (("price", ("int",), "int"),), (("paid", "int"),), (pay,))]))
>>> [machine.launch("ann", "pay", 3), machine.asks(), machine.ready()]
[Task('ann', 0), [('ann', (0, ('a', 0)), 'price', (3,))], []]
>>> [machine.answer("ann", (0, ("a", 0)), 7), machine.rest(), machine.task("ann").end()]
[True, [('ann', (0, ('m', 0))), ('ann', (0, ('r', 0)))], ('result', 8)]

>>> from heldover.records import checksum, read_record, record_text
>>> text = record_text(("waited", 5))
>>> [text, checksum(1, text), read_record(text)]
['("waited", 5)', 7793, ('waited', 5)]

>>> from heldover.versions import Version
>>> from heldover.fits import misfit
>>> doors = (("pay", (), "bool"), ("ship", (), "bool"))
>>> pay, ship = ("ask", "p", "x", "pay", ()), ("ask", "s", "x", "ship", ())
>>> old = Version([("shop", (), (), doors, (), (("run", (), (("x", "bool"),), "bool", (pay, ship)),))])
>>> new = Version([("shop", (), (), doors, (), (("run", (), (("x", "bool"),), "bool", (ship, pay)),))])
>>> misfit(old, new, ("ann", 0, ("run", (), 0), {(0, ("p", 0)): (("ask", "pay", ()), None, None)}))
('ahead', (0, ('p', 0)), ((0, ('s', 0)),))

>>> from heldover.flows import flow, needed_slots
>>> [needed_slots(double, 0), needed_slots(double, 1), flow(double, 0, 0), flow(double, 1, 0)]
[[0], [1], [(0, 0), (1, 1)], None]

>>> from heldover.worlds import parting
>>> parting(("code", version, {"buy": double}, "ann", 0, start), ("run", version, "ann", 0, start), {})
((0, ('a', 0)), ('waits', ('ask', 'price', (6,))), ('waits', ('ask', 'price', (3,))))
"""


class ExamplesTest(unittest.TestCase):
    def shown(self, source, names):
        """What an example shows: what it prints, or the repr of its value."""
        if source.startswith("print("):
            printed = io.StringIO()
            with contextlib.redirect_stdout(printed):
                exec(source, names)
            # The text of a version ends with a line feed of its own.
            return printed.getvalue().rstrip("\n") + "\n"
        return repr(eval(source, names)) + "\n"

    def test_as_they_stand(self):
        examples = doctest.DocTestParser().get_examples(EXAMPLES)
        self.assertGreater(len(examples), 50)
        names = {}
        for example in examples:
            with self.subTest(example.source):
                if example.want:
                    self.assertEqual(self.shown(example.source, names), example.want)
                else:
                    exec(example.source, names)


if __name__ == "__main__":
    unittest.main()
