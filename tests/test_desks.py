"""Promises 19 to 21 of desks.py: desks led step by step, beside a plain one, their errors, and orders."""

import copy
import itertools
import math
import random
import unittest

from accountmaps.deeds import changed, map_of, run
from accountmaps.desks import Desk
from accountmaps.errors import Clash, DoubleName, InvalidModulus, InvalidName, InvalidNumber, InvalidPair, InvalidState
from accountmaps.errors import Locked, NothingToUndo, Unreadable, UnknownName
from accountmaps.houses import House
from accountmaps.maps import first_unlike, joined, same_map
from accountmaps.piles import as_map, gain, need
from accountmaps.reports import told
from accountmaps.texts import show_script
from tests.helping import are_apart, error_of, spoil

ACCOUNTS = ["stock", "cash", "day"]
NIGHT = [("put", "day", ("number", 1)), ("set", "day", ("rest", ("account", "day"), 2))]
SHOP = House(ACCOUNTS, [("night", NIGHT), ("pay", [("put", "cash", ("number", 5))])])


def put(name, amount):
    return [("put", name, ("number", amount))]


def some_script(chance, accounts):
    """A script of at most two deeds, which often passes others."""
    one, other = chance.choice(accounts), chance.choice(accounts)
    deeds = [("put", one, ("number", chance.randint(-2, 2))), ("put", one, ("number", 1)), ("put", one, ("account", other)),
             ("set", one, ("number", chance.randint(0, 1))), ("times", chance.randint(0, 2), put(one, 1)),
             ("when", ("account", one), 2, [1], put(other, 1), put(one, 1) if chance.random() < 0.3 else []),
             ("set", one, ("times", -1, ("account", one)))]
    if one != other:
        deeds += [("move", one, other, ("number", 1)), ("swap", one, other)]
    return [chance.choice(deeds) for _ in range(chance.choice([0, 1, 1, 1, 2]))]


class Plain:
    """A desk as DOC.md tells it, which keeps all that it ever was, and tells an error by its class and value."""

    def __init__(self, house, state):
        self.house, self.start, self.many = house, list(state), 0
        self.now = {"forks": {"main": []}, "fork": "main", "locks": []}
        self.past = []

    def log(self):
        return self.now["forks"][self.now["fork"]]

    def state(self, log=None):
        return run(self.house, [deed for _, script in (self.log() if log is None else log) for deed in script], self.start)

    def form(self, log):
        form = same_map(len(self.house.accounts))
        for _, script in log:
            form = joined(form, map_of(self.house, script))
        return form

    def step(self):
        self.past.append(copy.deepcopy(self.now))

    def locked(self, scripts):
        for name in self.house.accounts:
            if name in self.now["locks"] and any(name in changed(self.house, script) for script in scripts):
                return Locked, name
        return None

    def do(self, script):
        if self.locked([script]):
            return self.locked([script])
        self.step()
        self.many += 1
        self.log().append((self.many, copy.deepcopy(script)))
        return self.state()

    def lock(self, name):
        if name not in self.house.accounts:
            return UnknownName, name
        if name in self.now["locks"]:
            return Locked, name
        self.step()
        self.now["locks"].append(name)
        return None

    def unlock(self, name):
        if name not in self.now["locks"]:
            return UnknownName, name
        self.step()
        self.now["locks"].remove(name)
        return None

    def branch(self, name):
        if not (1 <= len(name) <= 8 and all("a" <= sign <= "z" for sign in name)):
            return InvalidName, name
        if name in self.now["forks"]:
            return DoubleName, name
        self.step()
        self.now["forks"][name] = list(self.log())
        return None

    def switch(self, name):
        if name not in self.now["forks"]:
            return UnknownName, name
        self.step()
        self.now["fork"] = name
        return self.state()

    def merge(self, name):
        if name not in self.now["forks"]:
            return UnknownName, name
        own, other = self.log(), self.now["forks"][name]
        missing = [pair for pair in other if pair[0] not in [number for number, _ in own]]
        behind = [pair for pair in own if pair[0] not in [number for number, _ in other]]
        parted = first_unlike(self.form(own + missing), self.form(other + behind))
        if parted is not None:
            return Clash, parted
        if self.locked([script for _, script in missing]):
            return self.locked([script for _, script in missing])
        self.step()
        self.now["forks"][self.now["fork"]] = own + missing
        return self.state()

    def take_out(self, index):
        if not 0 <= index < len(self.log()):
            return InvalidNumber, index
        left = self.log()[:index] + self.log()[index + 1:]
        for name, now, other in zip(self.house.accounts, self.state(), self.state(left)):
            if name in self.now["locks"] and now != other:
                return Locked, name
        self.step()
        self.now["forks"][self.now["fork"]] = left
        return self.state()

    def undo(self):
        if not self.past:
            return NothingToUndo, 0
        self.now = self.past.pop()
        return None


def outcome(call, *things):
    """What a call returns, or the tuple (class, value) of its error."""
    try:
        return call(*things)
    except ValueError as error:
        return type(error), error.value


def some_call(chance, house):
    name = chance.choice(["main", "main", "a", "b", "c", "none"])
    account = chance.choice(house.accounts + ["none"])
    return chance.choice([("do", some_script(chance, house.accounts))] * 6 + [("undo",)] * 2 + [("merge", name)] * 4
                         + [("switch", name)] * 3 + [("branch", chance.choice(["a", "b", "c", "main", "", "nine9"]))] * 2
                         + [("take_out", chance.choice([-1, 0, 0, 1, 2, 5]))] * 2 + [("lock", account), ("unlock", account)])


def shown(call, answer):
    """The text that answers the same call by `order`."""
    return " ".join(map(str, answer)) if call[0] in ("do", "switch", "merge", "take_out") else "done"


class TestBesideAPlainDesk(unittest.TestCase):
    def same(self, desk, plain):
        self.assertEqual(desk.state, plain.state())
        self.assertEqual(desk.fork, plain.now["fork"])
        self.assertEqual(desk.log(), [script for _, script in plain.log()])
        self.assertEqual(desk.forks(), sorted(plain.now["forks"]))
        self.assertEqual(desk.locks(), [name for name in plain.house.accounts if name in plain.now["locks"]])
        self.assertEqual(len(desk), len(plain.past))

    def lead(self, chance, house, calls, by_texts):
        state = [chance.randint(-3, 3) for _ in house.accounts]
        desk, plain = Desk(house, state), Plain(house, state)
        seen = set()
        for _ in range(calls):
            call = some_call(chance, house)
            right = outcome(getattr(plain, call[0]), *call[1:])
            if by_texts and chance.random() < 0.5 and call[0] != "branch" and call[1:] != (-1,):
                word = "out" if call[0] == "take_out" else call[0]
                parts = [show_script(part) if isinstance(part, list) else str(part) for part in call[1:]]
                found = outcome(desk.order, " ".join([word] + parts))
                self.assertEqual(found, right if isinstance(right, tuple) else shown(call, right))
            else:
                found = outcome(getattr(desk, call[0]), *call[1:])
                self.assertEqual(found, right)
            seen.add((call[0], right[0] if isinstance(right, tuple) else None))
            if chance.random() < 0.4:
                spoil(found)
                spoil(call)
            self.same(desk, plain)
        return seen

    def test_made_up(self):
        chance = random.Random(1201)
        seen = set()
        for accounts in (["a"], ["cash", "day"], ["cash", "day"]) * 25:
            seen |= self.lead(chance, House(accounts, []), 45, chance.random() < 0.5)
        for call in ("do", "undo", "merge", "switch", "branch", "take_out", "lock", "unlock"):
            self.assertIn((call, None), seen)
        self.assertLessEqual({("merge", Clash), ("merge", UnknownName), ("merge", Locked), ("do", Locked), ("lock", Locked),
                              ("lock", UnknownName), ("unlock", UnknownName), ("branch", DoubleName),
                              ("branch", InvalidName), ("switch", UnknownName), ("take_out", InvalidNumber),
                              ("take_out", Locked), ("undo", NothingToUndo)}, seen)

    def test_two_hundred_calls(self):
        chance = random.Random(1202)
        self.lead(chance, House(["cash"], []), 200, True)
        self.lead(chance, House(["cash", "day"], []), 200, False)


class TestSteps(unittest.TestCase):
    def test_as_begun(self):
        state = [1, 2, 3]
        desk = Desk(state=state, house=SHOP)
        self.assertEqual([desk.state, desk.fork, desk.log(), desk.forks(), desk.locks(), len(desk)],
                         [[1, 2, 3], "main", [], ["main"], [], 0])
        self.assertEqual(desk.house, SHOP)
        state.append(4)
        state[0] = 9
        desk.state.append(5)
        self.assertEqual(desk.state, [1, 2, 3])
        desk.do(put("cash", 1))
        self.assertEqual(desk.take_out(0), [1, 2, 3])
        self.assertNotEqual(desk, Desk(SHOP, [1, 2, 3]))
        for wrong in ([], [1, 2], [1, 2, 3, 4]):
            self.assertEqual(error_of(Desk, SHOP, wrong), (InvalidState, wrong))
            self.assertIsNot(error_of(Desk, SHOP, wrong)[1], wrong)

    def test_lists_of_their_own(self):
        desk, script = Desk(SHOP, [0, 0, 0]), [("when", ("account", "day"), 2, [0], put("cash", 1), [])]
        made = desk.do(script)
        spoil(made)
        spoil(script)
        self.assertEqual((desk.state, len(desk.log()[0])), ([0, 1, 0], 1))
        for told_list in (desk.log(), desk.state, desk.forks(), desk.locks(), desk.program(), desk.switch("main"),
                          desk.merge("main"), desk.readable(ACCOUNTS)):
            self.assertTrue(are_apart(told_list))
            spoil(told_list)
        self.assertEqual((desk.log(), desk.state), ([[("when", ("account", "day"), 2, [0], put("cash", 1), [])]], [0, 1, 0]))

    def test_numbers_are_kept_in_all_forks(self):
        desk = Desk(SHOP, [0, 0, 0])
        desk.do(put("cash", 1))
        desk.branch(name="other")
        desk.do(put("cash", 1))
        desk.switch(name="other")
        desk.do(put("cash", 1))
        # The scripts are alike, but three of them were done: a merge does the one that it has not.
        self.assertEqual(desk.merge(name="main"), [0, 3, 0])
        self.assertEqual(desk.merge("main"), [0, 3, 0])
        self.assertEqual(len(desk), 7)
        desk.switch("main")
        self.assertEqual(desk.merge("other"), [0, 3, 0])
        self.assertEqual(len(desk.log()), 3)

    def test_merges(self):
        desk = Desk(SHOP, [0, 0, 0])
        desk.branch("a")
        desk.do([("set", "cash", ("number", 7))])
        desk.switch("a")
        desk.do([("put", "stock", ("account", "cash"))])
        before = [desk.state, desk.log(), len(desk)]
        self.assertEqual(error_of(desk.merge, "main"), (Clash, [0, 0, 0]))
        self.assertEqual([desk.state, desk.log(), len(desk)], before)
        # With itself, or with what is all there, nothing is done; but it counts.
        self.assertEqual(desk.merge("a"), [0, 0, 0])
        self.assertEqual(len(desk), before[2] + 1)
        # What was taken out of one fork alone comes back at the end.
        desk = Desk(SHOP, [0, 0, 0])
        desk.do(put("cash", 1))
        desk.do(put("stock", 2))
        desk.branch("b")
        self.assertEqual(desk.take_out(index=0), [2, 0, 0])
        self.assertEqual(desk.merge("b"), [2, 1, 0])
        self.assertEqual(desk.log(), [put("stock", 2), put("cash", 1)])
        # If it does not pass, the merge clashes, also where nothing would be done.
        desk = Desk(SHOP, [0, 0, 0])
        desk.do(put("cash", 1))
        desk.do([("set", "cash", ("times", 2, ("account", "cash")))])
        desk.branch("c")
        desk.take_out(0)
        self.assertEqual(error_of(desk.merge, "c"), (Clash, [0, 0, 0]))
        desk.undo()
        desk.switch("c")
        desk.take_out(0)
        desk.switch("main")
        self.assertEqual(error_of(desk.merge, "c"), (Clash, [0, 0, 0]))

    def test_clash_ahead_of_locked(self):
        desk = Desk(SHOP, [0, 0, 0])
        desk.branch("a")
        desk.do([("set", "cash", ("number", 7))])
        desk.switch("a")
        desk.do(put("cash", 1))
        desk.lock("cash")
        self.assertEqual(error_of(desk.merge, "none"), (UnknownName, "none"))
        self.assertEqual(error_of(desk.merge, "main"), (Clash, [0, 0, 0]))
        desk.undo()
        desk.take_out(0)
        desk.lock("cash")
        self.assertEqual(error_of(desk.merge, "main"), (Locked, "cash"))

    def test_locks(self):
        desk = Desk(SHOP, [3, 10, 1])
        self.assertIsNone(desk.lock(name="day"))
        self.assertIsNone(desk.lock("stock"))
        self.assertEqual(desk.locks(), ["stock", "day"])
        for script, name in ((put("day", 1), "day"), (put("stock", 1) + put("day", 1), "stock"),
                             (put("day", 1) + put("stock", 1), "stock"), ([("do", "night")], "day"),
                             ([("when", ("account", "cash"), 7, [3], put("day", 1), [])], "day"),
                             ([("set", "stock", ("number", 3))], "stock"), ([("swap", "cash", "stock")], "stock")):
            self.assertEqual(error_of(desk.do, script), (Locked, name))
        # One that changes an account and changes it back, or never changes it, changes it not.
        for script in (put("day", 1) + put("day", -1), [("swap", "stock", "day"), ("swap", "day", "stock")], put("day", 0),
                       [("times", 0, put("day", 1))], [("when", ("account", "day"), 2, [], put("day", 1), [])],
                       [("set", "day", ("account", "day"))], [], put("cash", 4)):
            self.assertIsNone(error_of(desk.do, script))
        self.assertEqual(desk.state, [3, 14, 1])
        # They hold for all forks; and a locked account may be taken out of the log if its amount stays.
        desk.branch("other")
        desk.switch("other")
        self.assertEqual(error_of(desk.do, put("day", 1)), (Locked, "day"))
        self.assertIsNone(desk.unlock(name="day"))
        self.assertEqual(desk.do(put("day", 2)), [3, 14, 3])
        desk.lock("day")
        self.assertEqual(error_of(desk.take_out, 8), (Locked, "day"))
        self.assertEqual(desk.take_out(7), [3, 10, 3])
        self.assertEqual(error_of(desk.lock, "day"), (Locked, "day"))
        self.assertEqual(error_of(desk.unlock, "cash"), (UnknownName, "cash"))
        self.assertEqual(error_of(desk.unlock, "none"), (UnknownName, "none"))
        for name in ACCOUNTS:
            if name not in desk.locks():
                desk.lock(name)
        self.assertEqual(desk.locks(), ACCOUNTS)
        self.assertEqual(desk.do([]), [3, 10, 3])

    def test_merges_and_locks(self):
        desk = Desk(SHOP, [0, 0, 0])
        desk.branch("a")
        desk.do(put("day", 2))
        desk.do(put("cash", 1))
        desk.switch("a")
        desk.lock("cash")
        desk.lock("day")
        self.assertEqual(error_of(desk.merge, "main"), (Locked, "cash"))
        desk.unlock("cash")
        self.assertEqual(error_of(desk.merge, "main"), (Locked, "day"))
        desk.unlock("day")
        desk.lock("stock")
        self.assertEqual(desk.merge("main"), [0, 1, 2])
        # Each script by itself counts: one that another one takes back is refused all the same.
        desk.branch("b")
        desk.do(put("cash", 1))
        desk.do(put("cash", -1))
        desk.switch("b")
        desk.lock("cash")
        self.assertEqual(error_of(desk.merge, "a"), (Locked, "cash"))

    def test_undo(self):
        desk = Desk(SHOP, [0, 0, 0])
        self.assertEqual(error_of(desk.undo), (NothingToUndo, 0))
        desk.do(put("cash", 1))
        desk.branch("a")
        desk.switch("a")
        desk.do(put("cash", 2))
        desk.switch("main")
        desk.merge("a")
        stands = []
        for _ in range(6):
            stands.append((desk.state[1], desk.fork, len(desk.log()), desk.forks()))
            self.assertIsNone(desk.undo())
        self.assertEqual(stands, [(3, "main", 2, ["a", "main"]), (1, "main", 1, ["a", "main"]), (3, "a", 2, ["a", "main"]),
                                  (1, "a", 1, ["a", "main"]), (1, "main", 1, ["a", "main"]), (1, "main", 1, ["main"])])
        self.assertEqual((desk.state, desk.log(), len(desk)), ([0, 0, 0], [], 0))
        self.assertEqual(error_of(desk.undo), (NothingToUndo, 0))
        # A script that was taken back and is done again is another one.
        desk.branch("b")
        desk.do(put("cash", 1))
        desk.switch("b")
        desk.merge("main")
        desk.undo()
        desk.undo()
        desk.undo()
        desk.do(put("cash", 4))
        desk.switch("b")
        self.assertEqual(desk.merge("main"), [0, 4, 0])
        self.assertEqual(desk.log(), [put("cash", 4)])


class TestErrors(unittest.TestCase):
    def test_scripts(self):
        desk = Desk(SHOP, [1, 2, 3])
        desk.lock("cash")
        for script, error in (([("do", "none")], (UnknownName, "none")), ([("put", "none", ("number", 1))], (UnknownName, "none")),
                              ([("swap", "cash", "cash")], (InvalidPair, "cash")), ([("times", -1, [])], (InvalidNumber, -1)),
                              ([("set", "cash", ("rest", ("number", 1), 0))], (InvalidModulus, 0)),
                              (put("cash", 1) + [("do", "none")], (UnknownName, "none"))):
            self.assertEqual(error_of(desk.do, script), error)
            self.assertEqual(error_of(desk.do, script=script), error)
        self.assertEqual((len(desk), desk.log(), desk.state), (1, [], [1, 2, 3]))

    def test_names(self):
        desk = Desk(SHOP, [1, 2, 3])
        for wrong in ("", "ninesigns", "A", "a b", "cash1", "-"):
            self.assertEqual(error_of(desk.branch, wrong), (InvalidName, wrong))
            for call in (desk.lock, desk.unlock, desk.switch, desk.merge):
                self.assertEqual(error_of(call, name=wrong), (UnknownName, wrong))
        self.assertEqual(error_of(desk.branch, "main"), (DoubleName, "main"))
        self.assertIsNone(desk.branch("cash"))
        self.assertEqual(error_of(desk.branch, name="cash"), (DoubleName, "cash"))
        self.assertEqual(error_of(desk.lock, "main"), (UnknownName, "main"))
        self.assertEqual(error_of(desk.switch, "stock"), (UnknownName, "stock"))
        self.assertEqual(error_of(desk.readable, ["cash", "none", "zz"]), (UnknownName, "none"))
        self.assertEqual((len(desk), desk.forks(), desk.locks()), (1, ["cash", "main"], []))

    def test_indexes(self):
        desk = Desk(SHOP, [1, 2, 3])
        self.assertEqual(error_of(desk.take_out, 0), (InvalidNumber, 0))
        desk.do(put("cash", 1))
        for wrong in (-1, 1, 10 ** 30):
            self.assertEqual(error_of(desk.take_out, index=wrong), (InvalidNumber, wrong))
        self.assertEqual((len(desk), desk.state), (1, [1, 3, 3]))

    def test_held_lists_are_new(self):
        desk = Desk(SHOP, [0, 0, 0])
        desk.branch("a")
        desk.do([("set", "cash", ("number", 7))])
        desk.switch("a")
        desk.do(put("cash", 1))
        _, held = error_of(desk.merge, "main")
        spoil(held)
        self.assertEqual(error_of(desk.merge, "main"), (Clash, [0, 0, 0]))


class TestOrders(unittest.TestCase):
    def test_answers(self):
        desk = Desk(SHOP, [3, 10, 1])
        for text, answer in (("state", "3 10 1"), ("forks", "main"), ("locks", "-"), ("log", "-"),
                             ("map", "plain 1 0 0 0 1 0 0 0 1 0 0 0"), ("do do pay", "3 15 1"), ("do -", "3 15 1"),
                             ("log", "do pay | -"), ("do do night; move stock cash (2 * day)", "3 15 0"),
                             ("log", "do pay | - | do night; move stock cash (2 * day)"), ("map", "rests 1 1 2"),
                             ("branch other", "done"), ("forks", "main other"), ("lock day", "done"), ("lock stock", "done"),
                             ("locks", "stock day"), ("switch other", "3 15 0"), ("unlock stock", "done"), ("locks", "day"),
                             ("undo", "done"), ("locks", "stock day"), ("out 1", "3 15 0"), ("merge main", "3 15 0"),
                             ("out 0", "3 10 0"), ("state", "3 10 0"), ("do put cash -4", "3 6 0"), ("undo", "done")):
            self.assertEqual(desk.order(text), answer)
        self.assertEqual(len(desk), 10)
        self.assertEqual(desk.order(text="state"), "3 10 0")
        empty = Desk(House(["a"], []), [0])
        empty.do([])
        self.assertEqual(empty.order("log"), "-")

    def test_maps(self):
        desk = Desk(House(["a", "b"], []), [0, 0])
        desk.order("do put a (3 * b); put b -7")
        self.assertEqual(desk.order("map"), "plain 1 3 0 1 0 -7")
        desk.order("do swap a b")
        self.assertEqual(desk.order("map"), "plain 0 1 1 3 -7 0")
        desk.order("do put a ((a + b) rest 3)")
        self.assertEqual(desk.order("map"), "rests 3 3")
        desk.order("do set a 0; set b 0")
        self.assertEqual(desk.order("map"), "plain 0 0 0 0 0 0")

    def test_unreadable(self):
        desk = Desk(SHOP, [3, 10, 1])
        desk.do([])
        texts = ["", " ", "x", "do", "do ", "do  -", "do put cash", "do put cash 01", "do put cash 5;", "do put cash 5; ",
                 "do pay", "do swap cash cash", "do times -1 [-]", "Do -", "do - ", " do -", "undo ", " undo", "undo 1",
                 "state ", "state x", "states", "forks main", "locks ", "log 0", "map ", "maps", "switch", "switch ",
                 "switch  main", "switch main ", "switch Main", "switch ninesigns", "switch main other", "switch main1",
                 "merge", "merge 1", "merge -", "out", "out ", "out -1", "out 00", "out 01", "out -0", "out +1", "out x",
                 "out 1234567890", "out 0 ", "out 0 0", "take_out 0", "take 0", "lock", "lock ", "lock cash day", "lock -",
                 "unlock", "unlock Cash", "branch", "branch ", "branch nine9", "branch a b", "readable cash", "program",
                 "do " + "(" * 200, "do put cash " + "(" * 70 + "1" + " + 1)" * 70, "do [-]", "do do", "do do Do", "len"]
        for text in texts:
            self.assertEqual(error_of(desk.order, text), (Unreadable, text))
            self.assertEqual(error_of(desk.order, text=text), (Unreadable, text))
        chance = random.Random(1211)
        for text in texts[2:30] + ["do put cash 5", "switch main", "out 0", "branch a"]:
            for _ in range(20):
                place = chance.randint(0, len(text))
                other = text[:place] + chance.choice("abz 0129-[];|()+*~") + text[place + chance.randint(0, 1):]
                found = error_of(desk.order, other)
                self.assertTrue(found is None or found[0] != Unreadable or found[1] == other)
        self.assertEqual(len(Desk(SHOP, [0, 0, 0])), 0)

    def test_errors_of_the_methods(self):
        desk = Desk(SHOP, [3, 10, 1])
        for text, error in (("do do none", (UnknownName, "none")), ("do put x 1", (UnknownName, "x")),
                            ("switch other", (UnknownName, "other")), ("merge other", (UnknownName, "other")),
                            ("out 0", (InvalidNumber, 0)), ("out 123456789", (InvalidNumber, 123456789)),
                            ("lock other", (UnknownName, "other")), ("unlock cash", (UnknownName, "cash")),
                            ("branch main", (DoubleName, "main")), ("undo", (NothingToUndo, 0))):
            self.assertEqual(error_of(desk.order, text), error)
        desk.order("lock cash")
        self.assertEqual(error_of(desk.order, "do do pay"), (Locked, "cash"))
        self.assertEqual(error_of(desk.order, "lock cash"), (Locked, "cash"))
        self.assertEqual((len(desk), desk.state), (1, [3, 10, 1]))


class TestWhole(unittest.TestCase):
    def test_programs_and_maps(self):
        chance = random.Random(1221)
        for _ in range(40):
            house = House(["cash", "day"][:chance.randint(1, 2)], [])
            desk = Desk(house, [0] * len(house.accounts))
            for _ in range(chance.randint(0, 5)):
                desk.do(some_script(chance, house.accounts))
            form = Plain(house, [0]).form([(0, script) for script in desk.log()])
            program = desk.program()
            self.assertEqual((need(program), gain(program)), (0, 0))
            self.assertEqual(as_map(house, program), form)
            self.assertEqual(map_of(house, [deed for script in desk.log() for deed in script]), form)
            words = desk.order("map").split(" ")
            if max(form[0]) > 1:
                self.assertEqual(words, ["rests"] + [str(modulus) for modulus in form[0]])
            else:
                matrix, amounts = form[1][0]
                self.assertEqual(words, ["plain"] + [str(one) for row in matrix + [amounts] for one in row])

    def test_readable(self):
        chance = random.Random(1222)
        found = {}
        for _ in range(60):
            house = House(["stock", "cash", "day"][:chance.randint(1, 3)], [])
            accounts = house.accounts
            desk = Desk(house, [0] * len(accounts))
            for _ in range(chance.randint(0, 3)):
                desk.do(some_script(chance, accounts))
            form = Plain(house, [0]).form([(0, script) for script in desk.log()])
            if math.prod(form[0]) > 60:
                continue
            for size in range(len(accounts) + 1):
                for names in itertools.permutations(accounts, size):
                    looks = [(form[0], [([matrix[accounts.index(name)]], [amounts[accounts.index(name)]])
                                        for matrix, amounts in form[1]]) for name in names]
                    asks = [([1] * len(accounts), [([row], [0])]) for row in same_map(len(accounts))[1][0][0]]
                    right = sorted(name for name, ask in zip(accounts, asks) if names and told(looks, ask))
                    self.assertEqual(desk.readable(list(names)), right)
                    found[(size, len(right))] = True
        self.assertGreater(len(found), 7)
        desk = Desk(SHOP, [1, 2, 3])
        self.assertEqual([desk.readable([]), desk.readable(names=["day", "stock"]), desk.readable(ACCOUNTS)],
                         [[], ["day", "stock"], ["cash", "day", "stock"]])
        desk.do([("move", "cash", "stock", ("account", "day"))])
        self.assertEqual([desk.readable(["cash"]), desk.readable(["day", "cash", "day"])], [[], ["cash", "day"]])

    def test_merged_forks_are_merged_logs(self):
        """Forks merged into one another make the same, whatever state the desk began with."""
        chance = random.Random(1223)
        done = 0
        for _ in range(60):
            house = House(["cash", "day"], [])
            desk = Desk(house, [chance.randint(-9, 9), 3])
            desk.do(some_script(chance, house.accounts))
            desk.branch("other")
            desk.do(some_script(chance, house.accounts))
            desk.switch("other")
            desk.do(some_script(chance, house.accounts))
            if error_of(desk.merge, "main") is None:
                first, first_map = desk.state, desk.order("map")
                desk.switch("main")
                self.assertEqual(desk.merge("other"), first)
                self.assertEqual(desk.order("map"), first_map)
                many = len(desk.log())
                self.assertEqual(desk.merge("other"), first)
                self.assertEqual(len(desk.log()), many)
                done += 1
        self.assertGreater(done, 15)
