"""heldover.moves: sets that can move, the greatest one, reasons, replacements and marks."""

import unittest
from itertools import combinations

from heldover.errors import InvalidVersion, NotFound, TooMany, UnknownName
from heldover.fits import misfit
from heldover.machine import Machine
from heldover.moves import can_move, greatest, is_reason, keepers, replace, without_mark
from heldover.runs import Run
from heldover.talk import may_still, newcomers
from heldover.tasks import Task
from heldover.versions import Version
from tests.anything import ODD
from tests.samples import COLOR, DOORS, KEYS, function, module, version_of, version_with
from tests.talkers import line_of_talkers, random_population

M = (0, ("m", 0))
INT, BOOL = (("ka", "int"), ("kb", "int"), ("kc", "int")), (("ka", "bool"), ("kb", "bool"), ("kc", "bool"))


def talker(name, *words, kind="int", minutes=1):
    """A function that sleeps, and then sends (+key) and receives (-key)."""
    variable = {"int": "x", "bool": "ok"}[kind]
    body = [("sleep", "s", minutes)]
    for number, word in enumerate(words):
        label, key = "l" + "abcdef"[number], "k" + word[1]
        body.append(("send", label, "t", key, variable) if word[0] == "+" else ("receive", label, variable, key))
    return (name, (), (("x", "int"), ("ok", "bool"), ("t", "task")), "int", tuple(body))


def version_with_keys(keys, *functions):
    return Version([("shop", (), (), (), keys, functions)])


class Words:
    """[85] to [87], written out word by word."""

    def __init__(self, population, unread, new, names):
        self.population, self.unread, self.new = population, unread, new
        self.asked = sorted(set(names))

    def still(self, name, moved):
        if name == "":
            return newcomers(self.new)
        version, task = self.population[name]
        return may_still(self.new if moved else version, task)

    def changed(self, key, version):
        kinds = []
        for one in (self.new, version):
            found = dict(row for part in one.modules() for row in part[4])
            if key not in found:
                return False
            kinds.append(found[key])
        return kinds[0] != kinds[1]

    def misfit(self, name):
        return misfit(self.population[name][0], self.new, self.population[name][1])

    def held(self, name):
        receives = {key for word, key, _, _ in self.still(name, True) if word == "receive"}
        for id_, receiver, key, value in self.unread:
            if receiver == name and key in receives and not self.new.kinds().is_value(self.new.key(key), value):
                return id_
        return None

    def free(self, name):
        return name in self.asked and self.misfit(name) is None and self.held(name) is None

    def talk_keys(self, name, other):
        """The keys under which one as moved, and the other one as staying, talk, and that are changed."""
        ours, theirs = self.still(name, True), self.still(other, False)
        pairs = {(one[0], two[0], one[1]) for one in ours for two in theirs if one[1] == two[1]}
        keys = sorted({key for one, two, key in pairs if one != two})
        return [key for key in keys if self.changed(key, self.population[other][0])]

    def can_move(self, moving):
        for name in moving:
            if self.misfit(name) is not None or self.held(name) is not None:
                return False
        return not any(self.talk_keys(name, other) for name in moving for other in self.population if other not in moving)

    def greatest(self):
        sets = [set(some) for size in range(len(self.asked) + 1) for some in combinations(self.asked, size) if self.can_move(some)]
        union = set().union(*sets)
        assert self.can_move(union)
        return sorted(union)

    def chains(self, name, length):
        """All chains with so many links, in sorted order."""
        found = []
        for other in sorted(self.population):
            for key in self.talk_keys(name, other):
                if length == 1 and not self.free(other):
                    found.append(((key, other),))
                elif length > 1 and self.free(other):
                    found.extend(((key, other), *rest) for rest in self.chains(other, length - 1))
        return sorted(found)

    def chain(self, name):
        for length in range(1, len(self.population) + 1):
            found = self.chains(name, length)
            if found:
                return ("chain", found[0])
        return None

    def reasons(self):
        found = {}
        moved = self.greatest()
        for name in self.asked:
            if name in moved:
                continue
            if self.misfit(name) is not None:
                found[name] = ("misfit", self.misfit(name))
            elif self.held(name) is not None:
                found[name] = ("held", self.held(name))
            else:
                found[name] = self.chain(name)
        if self.chain("") is not None:
            found[""] = self.chain("")
        return found


def placed(version, name, start, story=()):
    return (version, (name, 0, (start, (), 0), dict(story)))


class CanMoveTest(unittest.TestCase):
    def setUp(self):
        self.old = version_with_keys(INT, talker("give", "+a"), talker("take", "-a"), talker("calm", "+b"), talker("gone"))
        self.new = version_with_keys(BOOL[:1] + INT[1:], talker("give", "+a", kind="bool"), talker("take", "-a", kind="bool"), talker("calm", "+b"))
        self.population = {"ann": placed(self.old, "ann", "give"), "bob": placed(self.old, "bob", "take"),
                           "eve": placed(self.old, "eve", "calm"), "zoe": placed(self.old, "zoe", "gone")}

    def can(self, *names, unread=(), population=None):
        return can_move(population or self.population, list(unread), self.new, list(names))

    def test_those_that_talk_move_together(self):
        self.assertTrue(self.can())
        self.assertTrue(self.can("ann", "bob"))
        self.assertTrue(self.can("eve"))
        self.assertTrue(self.can("ann", "bob", "eve"))
        self.assertFalse(self.can("ann"))
        self.assertFalse(self.can("bob", "eve"))

    def test_a_task_that_does_not_fit(self):
        self.assertFalse(self.can("zoe"))
        self.assertFalse(self.can("ann", "bob", "zoe"))

    def test_a_message_that_holds(self):
        wrong, good = (("max", M), "bob", "ka", 7), (("max", M), "bob", "ka", True)
        self.assertFalse(self.can("ann", "bob", unread=[wrong]))
        self.assertFalse(self.can("ann", "bob", unread=[good, wrong]))
        self.assertTrue(self.can("ann", "bob", unread=[good]))
        # Under another key, for another task, or for one that does not receive any more.
        self.assertTrue(self.can("ann", "bob", unread=[(("max", M), "bob", "kb", True), (("max", M), "ann", "ka", 7), (("max", M), "zoe", "ka", 7)]))
        # With the message received before, it may not receive another one.
        got = {(0, ("s", 0)): (("sleep", 1), True, 0), (0, ("la", 0)): (("receive", "ka"), (("max", M), True), 0)}
        old, new = [version_with_keys(keys, ("take", (), (("x", "int"), ("ok", "bool")), "int", (
            ("sleep", "s", 1), ("receive", "la", variable, "ka"), ("sleep", "z", 1)))) for keys, variable in ((BOOL, "ok"), (BOOL[:1] + INT[1:], "ok"))]
        population = {"bob": (old, ("bob", 0, ("take", (), 0), got))}
        self.assertTrue(can_move(population, [wrong], new, ["bob"]))
        self.assertFalse(can_move({"bob": (old, ("bob", 0, ("take", (), 0), {}))}, [wrong], new, ["bob"]))

    def test_sending_to_one_that_stays_counts_both_ways(self):
        for mover, stayer in (("give", "take"), ("take", "give")):
            population = {"ann": placed(self.old, "ann", mover), "bob": placed(self.old, "bob", stayer)}
            self.assertFalse(self.can("ann", population=population))
            # One that sends and one that sends do not talk.
            population = {"ann": placed(self.old, "ann", mover), "bob": placed(self.old, "bob", mover)}
            self.assertTrue(self.can("ann", population=population))

    def test_keys_that_are_not_changed(self):
        old = version_with_keys(INT, talker("give", "+b"), talker("take", "-b"))
        new = version_with_keys(BOOL[:1] + INT[1:], talker("give", "+b"), talker("take", "-b"))
        population = {"ann": placed(old, "ann", "give"), "bob": placed(old, "bob", "take")}
        self.assertTrue(can_move(population, [], new, ["ann"]))
        # A key that only one of the versions has is not changed.
        fewer = version_with_keys(INT[:1], talker("give"), talker("take"))
        self.assertTrue(can_move(population, [], fewer, ["ann"]))

    def test_alike_kinds_with_other_names(self):
        hue = ("hue", COLOR[1])
        take = function("take", ("receive", "r", "c", "ka"), params=(), inner=(("c", "color"),))
        give = function("give", ("sleep", "s", 1), ("send", "m", "t", "ka", "c"), params=(), inner=(("c", "color"), ("t", "task")))
        old = Version([module(take, give, keys=(("ka", "color"),))])
        other = [(*one[:2], tuple((name, "hue" if kind == "color" else kind) for name, kind in one[2]), *one[3:]) for one in (take, give)]
        new = Version([("shop", (), (hue,), (), (("ka", "hue"),), tuple(other))])
        population = {"ann": placed(old, "ann", "give"), "bob": placed(old, "bob", "take")}
        self.assertTrue(can_move(population, [], new, ["ann"]))

    def test_the_version_of_the_one_that_stays_counts(self):
        """The key is changed between the new version and that of the task that stays."""
        bool_old = version_with_keys(BOOL, talker("take", "-a", kind="bool"))
        population = {"ann": placed(self.old, "ann", "give"), "bob": placed(bool_old, "bob", "take")}
        self.assertTrue(can_move(population, [], self.new, ["ann"]))

    def test_names(self):
        for names in (["bob", "ann", "bob"], ("ann", "bob"), ("bob", "ann", "ann", "bob")):
            self.assertTrue(can_move(population=self.population, unread=[], new=self.new, names=names))
        for call in (can_move, greatest):
            with self.assertRaises(NotFound) as caught:
                call(self.population, [], self.new, ["zoe", "max", "ann", "kim"])
            self.assertEqual(caught.exception.value, "kim")


class GreatestTest(unittest.TestCase):
    def check(self, population, unread, new, names):
        words = Words(population, unread, new, names)
        moved, reasons = greatest(population, unread, new, names)
        wanted = words.reasons()
        self.assertEqual(moved, [] if "" in wanted else words.greatest())
        self.assertEqual(reasons, wanted)
        for size in range(len(words.asked) + 1):
            for some in combinations(words.asked, size):
                self.assertEqual(can_move(population, unread, new, list(some)), Words(population, unread, new, some).can_move(some))
        for name, reason in reasons.items():
            self.assertTrue(is_reason(population, unread, new, names, name, reason))
            for other in [*words.asked, ""]:
                if other not in reasons:
                    self.assertFalse(is_reason(population, unread, new, names, other, reason))
        return moved, reasons

    def test_by_chance(self):
        words = {"misfit": 0, "held": 0, "chain": 0}
        lengths, letting, moving = set(), 0, 0
        for seed in range(400):
            moved, reasons = self.check(*(line_of_talkers(seed) if seed % 5 == 0 else random_population(seed)))
            for reason in reasons.values():
                words[reason[0]] += 1
                if reason[0] == "chain":
                    lengths.add(len(reason[1]))
            letting += "" not in reasons
            moving += len(moved) > 1
        self.assertTrue(all(count > 20 for count in words.values()), words)
        self.assertTrue({1, 2, 3} <= lengths, lengths)
        self.assertTrue(letting > 50 and moving > 20, (letting, moving))

    def test_another_order(self):
        for seed in range(60):
            population, unread, new, names = random_population(seed)
            found = greatest(population, unread, new, names)
            again = greatest({name: population[name] for name in reversed(list(population))}, tuple(unread), new, tuple(reversed([*names, *names])))
            self.assertEqual(found, again)
            self.assertEqual(found, greatest(population=population, unread=unread, new=new, names=names))

    def chained(self):
        """A chain: ann talks with bob under a, bob with dan under b, dan does not fit."""
        old = version_with_keys(INT, talker("fa", "+a"), talker("fb", "-a", "+b"), talker("fc", "-b"), talker("fd", "-c"))
        new = version_with_keys(BOOL, talker("fa", "+a", kind="bool"), talker("fb", "-a", "+b", kind="bool"), talker("fc", "-b", kind="bool", minutes=5))
        population = {"ann": placed(old, "ann", "fa"), "bob": placed(old, "bob", "fb"), "dan": placed(old, "dan", "fc", {(0, ("s", 0)): (("sleep", 1), True, 0)})}
        return population, [], new, ["ann", "bob", "dan"]

    def test_chains(self):
        population, unread, new, names = self.chained()
        moved, reasons = self.check(population, unread, new, names)
        misfit_of_dan = ("question", (0, ("s", 0)), ("sleep", 1), ("sleep", 5))
        self.assertEqual((moved, reasons), ([], {
            "ann": ("chain", (("ka", "bob"), ("kb", "dan"))), "bob": ("chain", (("kb", "dan"),)), "dan": ("misfit", misfit_of_dan),
            "": ("chain", (("kb", "dan"),))}))
        # A task that is not asked is the end of a chain as well.
        self.assertEqual(greatest(population, unread, new, ["ann"])[1]["ann"], ("chain", (("ka", "bob"),)))

    def test_the_first_of_several_links(self):
        old = version_with_keys(INT, talker("fa", "+b", "+a"), talker("fb", "-a", "-b"))
        new = version_with_keys(BOOL, talker("fa", "+b", "+a", kind="bool"))
        population = {name: placed(old, name, "fb") for name in ("zoe", "bob", "max")}
        population["kim"] = placed(old, "kim", "fa")
        self.assertEqual(self.check(population, [], new, ["kim"])[1]["kim"], ("chain", (("ka", "bob"),)))

    def test_the_first_message_that_holds(self):
        old = version_with_keys(INT, talker("fa", "-a", "-b"))
        new = version_with_keys(BOOL, talker("fa", "-a", "-b", kind="bool"))
        population = {"ann": placed(old, "ann", "fa"), "bob": placed(old, "bob", "fa")}
        unread = [(("x", M), "ann", "kb", True), (("y", M), "bob", "ka", 1), (("z", M), "ann", "kb", 2), (("w", M), "ann", "ka", 1)]
        reasons = self.check(population, unread, new, ["ann", "bob"])[1]
        self.assertEqual(reasons, {"ann": ("held", ("z", M)), "bob": ("held", ("y", M))})
        for name, wrong in (("ann", ("w", M)), ("ann", ("x", M)), ("bob", ("z", M))):
            self.assertFalse(is_reason(population, unread, new, ["ann", "bob"], name, ("held", wrong)))

    def test_a_misfit_comes_before_a_message(self):
        new = version_with_keys(BOOL, talker("fa", "-a", kind="bool"), talker("fb"))
        got = {(0, ("s", 0)): (("sleep", 1), True, 0), (0, ("la", 0)): (("receive", "ka"), (("x", M), 4), 0)}
        population = {"ann": placed(version_with_keys(INT, talker("fa", "-a", "-a")), "ann", "fa", got)}
        unread = [(("y", M), "ann", "ka", 1)]
        reasons = self.check(population, unread, new, ["ann"])[1]
        self.assertEqual(reasons, {"ann": ("misfit", ("answer", (0, ("la", 0)), ("receive", "ka")))})
        self.assertFalse(is_reason(population, unread, new, ["ann"], "ann", ("held", ("y", M))))

    def test_newcomers(self):
        old = version_with_keys(INT, talker("fa", "+a"))
        new = version_with_keys(BOOL, talker("fa", "+a", kind="bool"), talker("fb", "-a", kind="bool"))
        population = {"ann": placed(old, "ann", "fa"), "bob": placed(old, "bob", "fa")}
        self.assertEqual(self.check(population, [], new, ["ann", "bob"]), (["ann", "bob"], {}))
        # One that is not asked is one with whom newcomers talk: none moves, though ann and bob do not talk.
        self.assertEqual(self.check(population, [], new, ["ann"]), ([], {"": ("chain", (("ka", "bob"),))}))
        self.assertEqual(self.check(population, [], new, []), ([], {"": ("chain", (("ka", "ann"),))}))
        self.assertEqual(self.check({}, [], new, []), ([], {}))


class IsReasonTest(unittest.TestCase):
    def setUp(self):
        old = version_with_keys(INT, talker("fa", "+a", "-c"), talker("fb", "-a", "+b"), talker("fc", "-b", "+c"), talker("fd", "-b"))
        new = version_with_keys(BOOL, talker("fa", "+a", "-c", kind="bool"), talker("fb", "-a", "+b", kind="bool"), talker("fc", "-b", "+c", kind="bool"))
        self.population = {"ann": placed(old, "ann", "fa"), "bob": placed(old, "bob", "fb"), "dan": placed(old, "dan", "fc"), "eve": placed(old, "eve", "fd")}
        self.names = ["ann", "bob", "dan", "eve"]
        self.new = new

    def true(self, name, reason, names=None, unread=()):
        return is_reason(self.population, list(unread), self.new, self.names if names is None else names, name, reason)

    def test_chains(self):
        links = (("ka", "bob"), ("kb", "eve"))
        longer = (("ka", "bob"), ("kb", "dan"), ("kc", "ann"), ("ka", "bob"), ("kb", "eve"))
        self.assertEqual(greatest(self.population, [], self.new, self.names)[1]["ann"], ("chain", links))
        for good in (links, longer, (("kc", "dan"), ("kb", "bob"), ("kb", "eve"))):
            self.assertTrue(self.true("ann", ("chain", good)))
            self.assertFalse(self.true("ann", ("chain", list(good))))
            self.assertFalse(self.true("ann", ["chain", good]))
            self.assertFalse(self.true("eve", ("chain", good)))
        for good in (links, longer):
            for place in range(len(good)):
                for wrong in (
                    good[:place] + good[place + 1:], good[:place] + (good[place],) + good[place:], good[:place] + (("kz", good[place][1]),) + good[place + 1:],
                    good[:place] + ((good[place][0], "max"),) + good[place + 1:], good[:place] + (list(good[place]),) + good[place + 1:],
                    good[:place] + ((*good[place], 1),) + good[place + 1:], good[:place] + (("kb" if good[place][0] != "kb" else "ka", good[place][1]),) + good[place + 1:],
                    good + (good[place],),
                ):
                    self.assertEqual(self.true("ann", ("chain", wrong)), wrong in (links, longer), wrong)
        self.assertFalse(self.true("ann", ("chain", (("ka", "bob"),))))
        self.assertFalse(self.true("ann", ("chain", ())))
        self.assertTrue(self.true("ann", ("chain", (("ka", "bob"),)), names=["ann"]))
        self.assertFalse(self.true("ann", ("chain", links), names=["ann"]))

    def test_newcomers(self):
        self.assertTrue(self.true("", ("chain", (("kb", "eve"),))))
        self.assertTrue(self.true("", ("chain", (("ka", "bob"), ("kb", "eve")))))
        self.assertTrue(self.true("", ("chain", (("kc", "ann"), ("ka", "bob"), ("kb", "eve")))))
        for wrong in ((), (("ka", "eve"),), (("kb", "dan"),), (("kb", "eve"), ("kb", "eve"))):
            self.assertFalse(self.true("", ("chain", wrong)))
        self.assertFalse(self.true("", ("misfit", ("start",))))

    def test_misfits_and_messages(self):
        self.assertTrue(self.true("eve", ("misfit", ("start",))))
        for wrong in (("misfit", ("start", 1)), ("misfit", ["start"]), ("held", ("x", M)), ("misfit",), ("misfit", ("start",), 1), "misfit", ("misfit", None)):
            self.assertFalse(self.true("eve", wrong))
            self.assertFalse(self.true("ann", wrong))
        unread = [(("x", M), "ann", "kc", 5)]
        self.assertTrue(self.true("ann", ("held", ("x", M)), unread=unread))
        self.assertFalse(self.true("ann", ("chain", (("ka", "bob"), ("kb", "eve"))), unread=unread))
        self.assertFalse(self.true("ann", ("held", ("x", M))))
        self.assertTrue(self.true("dan", ("chain", (("kc", "ann"),)), unread=unread))

    def test_true_is_not_one(self):
        old = version_with_keys(INT, ("fa", (), (("x", "int"),), "int", (("sleep", "s", 1), ("sleep", "t", 1))))
        new = version_with_keys(INT, ("fa", (), (("x", "int"),), "int", (("sleep", "s", 2), ("sleep", "t", 1))))
        population = {"ann": placed(old, "ann", "fa", {(0, ("s", 0)): (("sleep", 1), True, 0)})}
        good = ("misfit", ("question", (0, ("s", 0)), ("sleep", 1), ("sleep", 2)))
        self.assertTrue(is_reason(population, [], new, ["ann"], "ann", good))
        self.assertFalse(is_reason(population, [], new, ["ann"], "ann", ("misfit", ("question", (0, ("s", 0)), ("sleep", True), ("sleep", 2)))))
        self.assertFalse(is_reason(population, [], new, ["ann"], "ann", ("misfit", ("question", (False, ("s", 0)), ("sleep", 1), ("sleep", 2)))))

    def test_keys_that_only_one_version_has(self):
        old = version_with_keys((*INT, ("kz", "int")), talker("fa", "+a"), talker("fb", "-a"))
        new = version_with_keys((*BOOL, ("ky", "bool")), talker("fa", "+a", kind="bool"))
        population = {"ann": placed(old, "ann", "fa"), "bob": placed(old, "bob", "fb")}
        for key, wanted in (("ka", True), ("kb", False), ("kz", False), ("ky", False), ("nope", False), ("", False)):
            self.assertEqual(is_reason(population, [], new, ["ann"], "ann", ("chain", ((key, "bob"),))), wanted, key)

    def test_any_value(self):
        for word in ("nope", "held", "misfit", ""):
            self.assertFalse(self.true("ann", (word, (("ka", "bob"), ("kb", "eve")))))
            self.assertFalse(self.true("", (word, (("kb", "eve"),))))
        for odd in ODD:
            for name in ("ann", "eve", ""):
                for value in (odd, ("chain", odd), ("misfit", odd), ("held", odd), (odd, odd), ("chain", (odd,)), ("chain", ((odd, odd),)), ("chain", (("ka", odd),))):
                    self.assertFalse(self.true(name, value))

    def test_errors(self):
        with self.assertRaises(NotFound) as caught:
            is_reason(self.population, [], self.new, ["zoe", "max"], "kim", 3)
        self.assertEqual(caught.exception.value, "max")
        for odd in (*ODD, "zoe", "eve"):
            if not isinstance(odd, str) or odd != "":
                with self.assertRaises(NotFound) as caught:
                    is_reason(population=self.population, unread=[], new=self.new, names=["ann", "bob"], name=odd, reason=("misfit", ("start",)))
                self.assertIs(caught.exception.value, odd)


class ReplaceTest(unittest.TestCase):
    def machine(self):
        old = version_with_keys(INT, talker("fa", "+a"), talker("fb", "-a"), talker("fc", "-b"))
        machine = Machine(old)
        for name, start in (("ann", "fa"), ("bob", "fb"), ("eve", "fc")):
            machine.launch(name, start)
        return machine

    def test_the_greatest_set_moves(self):
        machine = self.machine()
        new = version_with_keys(BOOL[:1] + INT[1:], talker("fa", "+a", kind="bool"), talker("fb", "-a", kind="bool"))
        self.assertEqual(replace(machine=machine, version=new), (["ann", "bob"], {"eve": ("misfit", ("start",))}))
        self.assertEqual([machine.task(name).version for name in ("ann", "bob", "eve")], [1, 1, 0])
        self.assertEqual((machine.versions()[1], machine.current), (new, 1))
        self.assertEqual(machine.records()[-2:], [("version", 1), ("moved", ("ann", "bob"), 1)])

    def test_asked_tasks(self):
        machine = self.machine()
        same = version_with_keys(INT, talker("fa", "+a"), talker("fb", "-a"), talker("fc", "-b"))
        self.assertEqual(replace(machine, same, names=["eve", "eve"]), (["eve"], {}))
        self.assertEqual([machine.task(name).version for name in ("ann", "bob", "eve")], [0, 0, 1])
        self.assertEqual(replace(machine, same, ()), ([], {}))
        self.assertEqual(machine.records()[-2:], [("version", 2), ("moved", (), 2)])
        self.assertEqual(machine.current, 2)

    def test_one_that_is_refused_changes_nothing(self):
        machine = self.machine()
        new = version_with_keys(BOOL[:1] + INT[1:], talker("fa", "+a", kind="bool"))
        before, records = machine.clone(), machine.records()
        moved, reasons = replace(machine, new)
        self.assertEqual((moved, reasons["bob"], reasons[""]), ([], ("misfit", ("start",)), ("chain", (("ka", "bob"),))))
        self.assertTrue(machine == before)
        self.assertEqual(machine.records(), records)

    def test_errors(self):
        machine = self.machine()
        same = version_with_keys(INT, talker("fa", "+a"), talker("fb", "-a"), talker("fc", "-b"))
        new = version_with_keys(BOOL[:1] + INT[1:], talker("fa", "+a", kind="bool"))
        for _ in range(4):
            machine.add_version(same)
        before, records = machine.clone(), machine.records()
        with self.assertRaises(NotFound) as caught:
            replace(machine, same, ["zoe", "kim"])
        self.assertEqual(caught.exception.value, "kim")
        with self.assertRaises(TooMany) as caught:
            replace(machine, same)
        self.assertEqual(caught.exception.what, "versions")
        self.assertEqual(replace(machine, new)[0], [])
        self.assertTrue(machine == before)
        self.assertEqual(machine.records(), records)

    def test_by_chance(self):
        """No message is left behind that a task may still receive and that is of another kind."""
        let = 0
        for seed in range(400):
            population, unread, new, names = random_population(seed)
            versions = []
            for version, _ in population.values():
                if version not in versions:
                    versions.append(version)
            if not versions:
                continue
            tasks = [Task(name, versions.index(version), 0, task[2], task[3]) for name, (version, task) in population.items()]
            good = [(one, receiver, key, value) for one, receiver, key, value in unread if self.is_good(population, receiver, key, value)]
            machine = Machine.of_state(versions, 0, 0, tasks, good)
            wanted = greatest(machine.population(), machine.unread(), new, names)
            before = machine.clone()
            found = replace(machine, new, names)
            self.assertEqual(found, wanted)
            if "" in found[1]:
                self.assertTrue(machine == before)
                continue
            let += 1
            for name in found[0]:
                self.assertIn(machine.task(name).version, (len(versions), None))
            for _, receiver, key, value in machine.unread():
                self.assertTrue(self.is_good(machine.population(), receiver, key, value))
            # Whoever may still talk with another one under a key has the same kind for it.
            now = machine.population()
            for one in now:
                for other in now:
                    for first in may_still(*now[one]):
                        for second in may_still(*now[other]):
                            if first[0] == "send" and second[0] == "receive" and first[1] == second[1] and (one in found[0]) != (other in found[0]):
                                self.assertEqual(now[one][0].key(first[1]), now[other][0].key(first[1]))
        self.assertGreater(let, 40)

    def is_good(self, population, receiver, key, value):
        version, task = population[receiver]
        receives = {one for word, one, _, _ in may_still(version, task) if word == "receive"}
        return key not in receives or version.kinds().is_value(version.key(key), value)


class MarksTest(unittest.TestCase):
    def sleep(self, label):
        return ("sleep", label, 1)

    def slept(self, *labels, before=()):
        return {(0, *before, (label, 0)): (("sleep", 1), True, 0) for label in labels}

    def test_keepers(self):
        version = version_with(("since", "m", (self.sleep("a"),), (self.sleep("b"),)), self.sleep("c"))
        other = version_with(self.sleep("b"))
        start = ("run", (1,), 0)
        taken = {(0, ("m", 0)): (("mark",), True, 0)}
        population = {
            "zoe": (version, ("zoe", 0, start, self.slept("b"))), "ann": (version, ("ann", 0, start, self.slept("b", "c") | {})),
            "bob": (version, ("bob", 0, start, {})), "eve": (version, ("eve", 0, start, taken)), "kim": (other, ("kim", 0, start, self.slept("b"))),
        }
        self.assertEqual(keepers(population=population, function="run", label="m"), ["ann", "zoe"])
        self.assertEqual((keepers(population, "run", "b"), keepers(population, "walk", "m"), keepers({}, "run", "m")), ([], [], []))

    def test_keepers_in_callees(self):
        deep = function("deep", ("since", "m", (), (self.sleep("b"),)), params=())
        version = version_of(deep, function("run", ("since", "m", (), (("call", "c", "x", "deep", ()),))))
        inside = self.slept("b", before=(("c", 0),))
        population = {"ann": (version, ("ann", 0, ("run", (1,), 0), inside)), "bob": (version, ("bob", 0, ("deep", (), 0), self.slept("b")))}
        self.assertEqual((keepers(population, "deep", "m"), keepers(population, "run", "m")), (["ann", "bob"], ["ann"]))

    def test_without_a_mark(self):
        mark = ("since", "m", (self.sleep("a"), ("since", "k", (self.sleep("n"),), (self.sleep("o"),))), (self.sleep("b"),))
        version = version_with(self.sleep("p"), mark, self.sleep("q"))
        found = without_mark(version=version, function="run", label="m")
        self.assertTrue(found == version_with(self.sleep("p"), *mark[2], self.sleep("q")))
        self.assertTrue(version == version_with(self.sleep("p"), mark, self.sleep("q")))
        self.assertTrue(without_mark(found, "run", "k") == version_with(self.sleep("p"), self.sleep("a"), self.sleep("n"), self.sleep("q")))
        inner = without_mark(version, "run", "k")
        self.assertTrue(inner == version_with(self.sleep("p"), ("since", "m", (self.sleep("a"), self.sleep("n")), (self.sleep("b"),)), self.sleep("q")))

    def test_variables_errors_and_tags_with_the_name_of_the_mark(self):
        arm = (("set", "x", 1), ("try", "t", (("raise", "x"),), (("x", (("set", "x", "y"),)),)), ("return", "x"))
        version = version_with(("set", "x", "n"), ("since", "x", arm, ()))
        self.assertTrue(without_mark(version, "run", "x") == version_with(("set", "x", "n"), *arm))
        version = version_with(("since", "x", (("set", "x", 2),), (("set", "x", 3),)), ("set", "x", ("add", "x", 1)), ("return", "x"))
        self.assertTrue(without_mark(version, "run", "x") == version_with(("set", "x", 2), ("set", "x", ("add", "x", 1)), ("return", "x")))

    def test_in_all_bodies(self):
        mark = ("since", "m", (self.sleep("a"), self.sleep("z")), (self.sleep("b"),))
        arm = mark[2]
        for wrap in (
            lambda *body: (("loop", "k", 2, body),), lambda *body: (("if", "ok", body, ()),), lambda *body: (("if", "ok", (), body),),
            lambda *body: (("try", "t", body, (("dear", ()),)),), lambda *body: (("try", "t", (), (("late", ()), ("dear", body))),),
            lambda *body: (("both", "v", body, ()),), lambda *body: (("both", "v", (), body),), lambda *body: (("since", "u", body, ()),),
            lambda *body: (("since", "u", (), body),), lambda *body: (("match", "c", (("Red", (), ()), ("Mix", ("x", "t"), body))),),
            lambda *body: (("match", "c", (("Red", (), body), ("Mix", ("x", "t"), ()))),),
        ):
            version = version_with(self.sleep("p"), *wrap(self.sleep("i"), mark, self.sleep("j")), self.sleep("q"))
            wanted = version_with(self.sleep("p"), *wrap(self.sleep("i"), *arm, self.sleep("j")), self.sleep("q"))
            self.assertTrue(without_mark(version, "run", "m") == wanted)

    def test_labels_stay(self):
        version = version_with(("since", "m", (self.sleep(""),), (self.sleep(""),)), self.sleep(""))
        found = without_mark(version, "run", "m")
        self.assertEqual([statement[1] for statement in found.function("run")[4]], ["1", "3"])

    def test_other_functions_and_modules_stay(self):
        one = ("base", (), (COLOR,), DOORS, KEYS, (function("deep", ("since", "m", (), (self.sleep("b"),)), params=()),))
        two = ("shop", ("base",), (), (), (), (function("run", ("since", "m", (self.sleep("a"),), ())),))
        found = without_mark(Version([one, two]), "run", "m")
        self.assertTrue(found == Version([one, (*two[:5], (function("run", self.sleep("a")),))]))

    def test_runs_go_on(self):
        """Runs that took the new arm, or have not come to the mark, go on in the version without it."""
        version = version_with(self.sleep("p"), ("since", "m", (self.sleep("a"),), (self.sleep("b"),)), self.sleep("q"))
        found = without_mark(version, "run", "m")
        for story in ({}, self.slept("p"), {**self.slept("p", "a"), (0, ("m", 0)): (("mark",), True, 0)}):
            run = Run(found, "ann", 0, ("run", (1,), 0), story)
            self.assertEqual(run.state, "closed")

    def test_errors(self):
        version = version_with(("since", "m", (self.sleep("a"),), ()), self.sleep("b"))
        for odd in (*ODD, "walk"):
            with self.assertRaises(UnknownName) as caught:
                without_mark(version, odd, odd)
            self.assertIs(caught.exception.name, odd)
        for odd in (*ODD, "b", "k"):
            if not isinstance(odd, str) or odd != "a":
                with self.assertRaises(UnknownName) as caught:
                    without_mark(version, "run", odd)
                self.assertIs(caught.exception.name, odd)
        self.assertRaises(UnknownName, without_mark, version, "run", "a")
        arm = tuple(self.sleep(letter) for letter in "abcdefg")
        with self.assertRaises(InvalidVersion) as caught:
            without_mark(version_with(("since", "m", arm, ()), *[self.sleep(letter) for letter in "uvwxyz"]), "run", "m")
        self.assertEqual((caught.exception.problem, caught.exception.name), ("limit", "run"))
        with self.assertRaises(InvalidVersion) as caught:
            without_mark(version_with(("since", "m", (("return", 1),), ()), self.sleep("z")), "run", "m")
        self.assertEqual((caught.exception.problem, caught.exception.name), ("behind", "run"))


if __name__ == "__main__":
    unittest.main()
