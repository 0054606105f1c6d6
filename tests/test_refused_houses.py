"""Promise 3: of several faults of a house the first one is told, of just its class and with its value."""

import unittest

from accountmaps.errors import DoubleName, InvalidModulus, InvalidName, InvalidNumber, InvalidPair
from accountmaps.errors import InvalidRests, UnknownName
from accountmaps.houses import House
from tests.helping import error_of

CASH, NO = ("account", "cash"), ("account", "no")
BAD = [("do", "nothing")]


def of_script(*deeds):
    """The error of a house with accounts cash and day and the scripts ahead and new."""
    return error_of(House, ["cash", "day"], [("ahead", []), ("new", list(deeds))])


def of_formula(formula):
    return of_script(("set", "cash", formula))


class TestNames(unittest.TestCase):
    def test_no_account(self):
        self.assertEqual(error_of(House, [], []), (InvalidNumber, 0))
        self.assertEqual(error_of(House, [], [("BAD", BAD), ("BAD", BAD)]), (InvalidNumber, 0))

    def test_no_names(self):
        for name in ("", "abcdefghi", "A", "aB", "a b", "a1", "a_b", " a", "a ", "0", "-", "~", "a\n", "\u00e4"):
            self.assertEqual(error_of(House, [name], []), (InvalidName, name))
            self.assertEqual(error_of(House, ["a"], [(name, [])]), (InvalidName, name))

    def test_first_account_then_first_script(self):
        self.assertEqual(error_of(House, ["a", "B", "C"], [("D", [])]), (InvalidName, "B"))
        self.assertEqual(error_of(House, ["a", "b"], [("c", BAD), ("D", []), ("E", [])]), (InvalidName, "D"))

    def test_no_name_ahead_of_double_ones(self):
        self.assertEqual(error_of(House, ["a", "a", "B"], []), (InvalidName, "B"))
        self.assertEqual(error_of(House, ["a", "a"], [("B", [])]), (InvalidName, "B"))
        self.assertEqual(error_of(House, ["A", "A"], []), (InvalidName, "A"))

    def test_double_names(self):
        self.assertEqual(error_of(House, ["a", "b", "c", "b", "a"], []), (DoubleName, "b"))
        self.assertEqual(error_of(House, ["x", "x"], [("y", []), ("y", [])]), (DoubleName, "x"))
        self.assertEqual(error_of(House, ["x"], [("z", BAD), ("y", []), ("y", []), ("z", [])]), (DoubleName, "y"))
        self.assertIsNone(error_of(House, ["x", "y"], [("y", []), ("x", [])]))

    def test_names_ahead_of_deeds(self):
        self.assertEqual(error_of(House, ["x"], [("y", BAD), ("y", [])]), (DoubleName, "y"))


class TestOneDeed(unittest.TestCase):
    def test_pairs(self):
        self.assertEqual(of_script(("swap", "cash", "cash")), (InvalidPair, "cash"))
        self.assertEqual(of_script(("move", "day", "day", ("number", 1))), (InvalidPair, "day"))
        self.assertEqual(of_script(("swap", "no", "no")), (InvalidPair, "no"))
        self.assertEqual(of_script(("move", "no", "no", ("rest", NO, 0))), (InvalidPair, "no"))

    def test_numbers_of_times(self):
        self.assertEqual(of_script(("times", -1, [])), (InvalidNumber, -1))
        self.assertEqual(of_script(("times", -40, BAD)), (InvalidNumber, -40))
        self.assertIsNone(of_script(("times", 0, [])))

    def test_accounts_that_there_are_not(self):
        self.assertEqual(of_script(("set", "x", ("account", "y"))), (UnknownName, "x"))
        self.assertEqual(of_script(("put", "cash", ("account", "y"))), (UnknownName, "y"))
        self.assertEqual(of_script(("move", "x", "y", ("account", "z"))), (UnknownName, "x"))
        self.assertEqual(of_script(("move", "cash", "y", ("account", "z"))), (UnknownName, "y"))
        self.assertEqual(of_script(("move", "cash", "day", ("account", "z"))), (UnknownName, "z"))
        self.assertEqual(of_script(("swap", "cash", "y")), (UnknownName, "y"))
        self.assertEqual(of_script(("swap", "x", "cash")), (UnknownName, "x"))
        self.assertEqual(of_script(("when", ("account", "x"), 0, [5], BAD, BAD)), (UnknownName, "x"))
        self.assertEqual(of_script(("set", "ahead", ("number", 1))), (UnknownName, "ahead"))

    def test_accounts_within_formulas(self):
        one, other = ("account", "x"), ("account", "y")
        for formula in (("plus", one, other), ("less", one, other), ("plus", ("rest", one, 0), other),
                        ("times", 2, ("less", ("rest", CASH, -1), one)), ("plus", ("number", 1), one)):
            self.assertEqual(of_formula(formula), (UnknownName, "x"))

    def test_scripts_that_stand_not_ahead(self):
        self.assertEqual(of_script(("do", "new")), (UnknownName, "new"))
        self.assertEqual(of_script(("do", "cash")), (UnknownName, "cash"))
        self.assertEqual(error_of(House, ["a"], [("one", [("do", "two")]), ("two", [])]), (UnknownName, "two"))
        self.assertIsNone(of_script(("do", "ahead")))

    def test_moduli(self):
        self.assertEqual(of_formula(("rest", CASH, 0)), (InvalidModulus, 0))
        self.assertEqual(of_formula(("rest", ("rest", CASH, -2), -1)), (InvalidModulus, -2))
        self.assertEqual(of_formula(("less", ("rest", CASH, 1), ("rest", CASH, -7))), (InvalidModulus, -7))
        self.assertEqual(of_formula(("plus", ("rest", CASH, -3), ("rest", CASH, 0))), (InvalidModulus, -3))
        self.assertEqual(of_formula(("times", 0, ("rest", CASH, 0))), (InvalidModulus, 0))
        self.assertIsNone(of_formula(("rest", CASH, 1)))

    def test_names_ahead_of_moduli(self):
        self.assertEqual(of_formula(("plus", ("rest", CASH, 0), NO)), (UnknownName, "no"))
        self.assertEqual(of_script(("when", ("rest", NO, 0), 0, [9], [], [])), (UnknownName, "no"))

    def test_moduli_of_a_when(self):
        self.assertEqual(of_script(("when", CASH, 0, [], [], [])), (InvalidModulus, 0))
        self.assertEqual(of_script(("when", ("rest", CASH, -5), 0, [1], BAD, [])), (InvalidModulus, -5))
        self.assertEqual(of_script(("when", ("rest", CASH, 5), -1, [1], BAD, [])), (InvalidModulus, -1))

    def test_rests_of_a_when(self):
        for rests in ([3], [-1], [0, 0], [1, 0], [0, 1, 3], [0, 2, 1], [2, 2], [-1, 0, 1], [0, 1, 2, 3]):
            self.assertEqual(of_script(("when", CASH, 3, rests, BAD, BAD)), (InvalidRests, rests))
        for rests in ([], [0], [2], [0, 2], [1, 2], [0, 1, 2]):
            self.assertIsNone(of_script(("when", CASH, 3, rests, [], [])))
        self.assertEqual(of_script(("when", CASH, 1, [1], [], [])), (InvalidRests, [1]))

    def test_rests_that_an_error_holds_are_new(self):
        rests = [2, 1]
        _, held = of_script(("when", CASH, 3, rests, [], []))
        rests.append(0)
        self.assertEqual(held, [2, 1])


class TestOrderOfDeeds(unittest.TestCase):
    def test_one_deed_ahead_of_the_next(self):
        self.assertEqual(of_script(("when", CASH, 3, [9], [], []), ("swap", "cash", "cash")), (InvalidRests, [9]))
        self.assertEqual(of_script(("set", "cash", ("rest", CASH, 0)), ("set", "x", CASH)), (InvalidModulus, 0))
        self.assertEqual(of_script(("swap", "cash", "x"), ("times", -1, [])), (UnknownName, "x"))

    def test_scripts_within_right_behind_their_deed(self):
        self.assertEqual(of_script(("times", 0, [("do", "x")]), ("swap", "day", "day")), (UnknownName, "x"))
        self.assertEqual(of_script(("when", CASH, 1, [], [], [("do", "x")]), ("do", "y")), (UnknownName, "x"))
        self.assertEqual(of_script(("when", CASH, 1, [], [("do", "x")], [("do", "y")])), (UnknownName, "x"))
        self.assertEqual(of_script(("when", CASH, 2, [5], [("do", "x")], [])), (InvalidRests, [5]))
        self.assertEqual(of_script(("times", 2, [("times", 2, [("times", -3, [])])])), (InvalidNumber, -3))

    def test_one_script_ahead_of_the_next(self):
        scripts = [("one", [("times", 1, [("put", "a", ("rest", ("number", 1), 0))])]), ("two", BAD)]
        self.assertEqual(error_of(House, ["a"], scripts), (InvalidModulus, 0))

    def test_a_script_may_do_only_what_stands_ahead_also_within(self):
        scripts = [("one", []), ("two", [("times", 0, [("do", "one"), ("do", "three")])]), ("three", [])]
        self.assertEqual(error_of(House, ["a"], scripts), (UnknownName, "three"))


class TestOfWithScript(unittest.TestCase):
    def test_the_same_of_a_script_more(self):
        house = House(["cash", "day"], [("pay", [])])
        refused = [("BAD", BAD, (InvalidName, "BAD")), ("pay", BAD, (DoubleName, "pay")),
                   ("new", BAD, (UnknownName, "nothing")), ("new", [("do", "new")], (UnknownName, "new")),
                   ("new", [("swap", "x", "x")], (InvalidPair, "x")),
                   ("new", [("times", -1, BAD)], (InvalidNumber, -1)),
                   ("new", [("do", "pay"), ("when", CASH, 0, [1], BAD, BAD)], (InvalidModulus, 0)),
                   ("new", [("when", CASH, 1, [1], BAD, BAD)], (InvalidRests, [1]))]
        for name, script, expected in refused:
            self.assertEqual(error_of(house.with_script, name, script), expected)
            self.assertEqual(error_of(house.with_script, name=name, script=script), expected)
        self.assertEqual(house, House(["cash", "day"], [("pay", [])]))

    def test_names_of_a_house_got_by_without_script(self):
        house = House(["a"], [("pay", [])]).without_script("pay")
        self.assertEqual(error_of(house.with_script, "two", [("do", "pay")]), (UnknownName, "pay"))
        self.assertIsNone(error_of(house.with_script, "pay", []))
