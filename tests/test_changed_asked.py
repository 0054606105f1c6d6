"""Promise 9: accounts that are changed and asked, told of the map and not of its words."""

import unittest

from accountmaps.deeds import asked, changed
from accountmaps.houses import House
from tests.helping import all_rests, cases, plain_run

HOUSE = House(["stock", "day", "cash"], [("pay", [("put", "cash", ("number", 5))]), ("none", [])])
CASH, DAY, STOCK = ("account", "cash"), ("account", "day"), ("account", "stock")
ONE = ("number", 1)


class TestChanged(unittest.TestCase):
    def test_words_that_change(self):
        told = [[("do", "pay")], [("swap", "stock", "day")], [("move", "cash", "day", STOCK)], [("set", "day", ONE)],
                [("when", DAY, 12, [11], [("put", "stock", ONE)], [])]]
        self.assertEqual([changed(HOUSE, script) for script in told],
                         [["cash"], ["day", "stock"], ["cash", "day"], ["day"], ["stock"]])

    def test_words_that_change_nothing(self):
        for script in ([], [("do", "none")], [("times", 0, [("do", "pay")])], [("set", "cash", CASH)],
                       [("put", "cash", ONE), ("put", "cash", ("number", -1))], [("put", "cash", ("number", 0))],
                       [("move", "cash", "day", ("rest", DAY, 1))], [("swap", "cash", "day"), ("swap", "cash", "day")],
                       [("when", DAY, 3, [], [("do", "pay")], [])],
                       [("when", ("rest", DAY, 3), 4, [3], [("do", "pay")], [])]):
            self.assertEqual(changed(HOUSE, script), [])

    def test_by_name(self):
        self.assertEqual(changed(house=HOUSE, script=[("do", "pay")]), ["cash"])

    def test_ascending_as_texts(self):
        every = [("put", name, ONE) for name in ("stock", "day", "cash")]
        self.assertEqual(changed(HOUSE, every), ["cash", "day", "stock"])


class TestAsked(unittest.TestCase):
    def test_words_that_ask(self):
        told = [[("move", "cash", "stock", DAY)], [("put", "cash", DAY)], [("swap", "stock", "day")],
                [("set", "cash", ("plus", STOCK, DAY))], [("when", DAY, 7, [0], [("do", "pay")], [])],
                [("set", "cash", ("rest", STOCK, 5))], [("move", "cash", "stock", CASH)]]
        self.assertEqual([asked(HOUSE, script) for script in told],
                         [["day"], ["day"], ["day", "stock"], ["day", "stock"], ["day"], ["stock"], ["cash"]])

    def test_of_itself_does_not_matter(self):
        for script in ([], [("put", "cash", CASH)], [("set", "day", ("rest", DAY, 7))], [("set", "day", ONE)],
                       [("when", DAY, 7, [0], [("set", "day", ONE)], [])]):
            self.assertEqual(asked(HOUSE, script), [])

    def test_words_that_ask_for_nothing(self):
        for script in ([("put", "cash", ("times", 0, DAY))], [("put", "cash", ("less", DAY, DAY))],
                       [("put", "cash", ("rest", DAY, 1))], [("put", "cash", DAY), ("put", "cash", ("times", -1, DAY))],
                       [("set", "day", ONE), ("put", "cash", DAY)], [("put", "cash", DAY), ("set", "cash", ONE)],
                       [("when", DAY, 7, [0], [("do", "pay")], [("put", "cash", ("number", 5))])],
                       [("times", 0, [("put", "cash", DAY)])], [("put", "cash", ("rest", ("times", 6, DAY), 3))]):
            self.assertEqual(asked(HOUSE, script), [])

    def test_at_some_rests_alone(self):
        script = [("when", STOCK, 2, [1], [("set", "cash", DAY)], [])]
        self.assertEqual((changed(HOUSE, script), asked(HOUSE, script)), (["cash"], ["day", "stock"]))

    def test_by_way_of_another_account(self):
        self.assertEqual(asked(HOUSE, [("set", "stock", DAY), ("put", "cash", STOCK)]), ["day"])
        self.assertEqual(asked(house=HOUSE, script=[("set", "stock", DAY), ("put", "day", STOCK)]), ["day"])

    def test_one_account(self):
        self.assertEqual(asked(House(["a"], []), [("set", "a", ("rest", ("account", "a"), 5))]), [])


class TestMadeUp(unittest.TestCase):
    def test_by_trying_states(self):
        # Moduli of at most 4 and two accounts: what is told of rests shows in these states already.
        states = [list(state) for state in all_rests([9, 9])]
        for _, accounts, scripts, script in cases(51, 120, [[2], [3], [4]], 2):
            house = House(accounts, scripts)
            some = [state[:len(accounts)] for state in states]
            table = {tuple(state): plain_run(accounts, scripts, script, state) for state in some}
            moved = {name for state, then in table.items()
                     for name, one, other in zip(accounts, state, then) if one != other}
            self.assertEqual(changed(house, script), sorted(moved))
            self.assertEqual(asked(house, script), self.asked_by_trying(accounts, table))

    def asked_by_trying(self, accounts, table):
        found = set()
        for one, result in table.items():
            for other, then in table.items():
                unlike = [place for place in range(len(accounts)) if one[place] != other[place]]
                if len(unlike) == 1:
                    if any(result[place] != then[place] for place in range(len(accounts)) if place != unlike[0]):
                        found.add(accounts[unlike[0]])
        return sorted(found)
