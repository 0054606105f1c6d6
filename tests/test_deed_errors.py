"""Promise 4: the errors of the eight functions of deeds.py."""

import unittest

from accountmaps.deeds import asked, changed, form_of, map_of, run, script_for, states, value
from accountmaps.errors import InvalidForm, InvalidModulus, InvalidNumber, InvalidPair, InvalidRests
from accountmaps.errors import InvalidState, UnknownName
from accountmaps.houses import House
from tests.helping import are_apart, error_of, lists_within

HOUSE = House(["cash", "day"], [("pay", [("put", "cash", ("number", 5))])])
CASH, NO = ("account", "cash"), ("account", "no")
FORMULAS = [(("plus", NO, ("account", "pay")), (UnknownName, "no")), (("account", "pay"), (UnknownName, "pay")),
            (("less", ("rest", CASH, 0), NO), (UnknownName, "no")),
            (("rest", ("rest", CASH, -4), 0), (InvalidModulus, -4)), (("rest", CASH, 0), (InvalidModulus, 0))]
SCRIPTS = [([("swap", "no", "no"), ("do", "x")], (InvalidPair, "no")), ([("do", "cash")], (UnknownName, "cash")),
           ([("do", "pay"), ("times", -2, [("do", "x")])], (InvalidNumber, -2)),
           ([("when", ("rest", NO, 0), 0, [7], [], [])], (UnknownName, "no")),
           ([("when", ("rest", CASH, 0), -1, [7], [], [])], (InvalidModulus, 0)),
           ([("when", CASH, 2, [1, 1], [("do", "x")], [])], (InvalidRests, [1, 1])),
           ([("times", 0, [("move", "cash", "x", NO)]), ("swap", "day", "day")], (UnknownName, "x"))]


class TestFormulas(unittest.TestCase):
    def test_value(self):
        for formula, expected in FORMULAS:
            for state in ([1, 2], [1], []):
                self.assertEqual(error_of(value, HOUSE, formula, state), expected)

    def test_form_of(self):
        for formula, expected in FORMULAS:
            self.assertEqual(error_of(form_of, HOUSE, [formula]), expected)
            self.assertEqual(error_of(form_of, HOUSE, [CASH, formula, ("account", "x")]), expected)

    def test_formula_by_formula(self):
        self.assertEqual(error_of(form_of, HOUSE, [("rest", CASH, 0), NO]), (InvalidModulus, 0))

    def test_state_of_value(self):
        for state in ([], [1], [1, 2, 3]):
            self.assertEqual(error_of(value, HOUSE, CASH, state), (InvalidState, state))
            self.assertEqual(error_of(value, house=HOUSE, formula=CASH, state=state), (InvalidState, state))


class TestScripts(unittest.TestCase):
    def test_scripts(self):
        for script, expected in SCRIPTS:
            for function in (map_of, changed, asked):
                self.assertEqual(error_of(function, HOUSE, script), expected)
                self.assertEqual(error_of(function, house=HOUSE, script=script), expected)
            for function in (run, states):
                for state in ([1, 2], [1], [1, 2, 3]):
                    self.assertEqual(error_of(function, HOUSE, script, state), expected)

    def test_state(self):
        for function in (run, states):
            for script in ([], [("do", "pay")]):
                for state in ([], [1], [1, 2, 3]):
                    self.assertEqual(error_of(function, HOUSE, script, state), (InvalidState, state))
                    self.assertEqual(error_of(function, house=HOUSE, script=script, state=state),
                                     (InvalidState, state))

    def test_all_scripts_of_the_house_stand_ahead(self):
        house = HOUSE.with_script("late", [("do", "pay")])
        self.assertEqual(run(house, [("do", "late"), ("do", "pay")], [0, 0]), [10, 0])
        self.assertEqual(error_of(run, HOUSE, [("do", "late")], [0, 0]), (UnknownName, "late"))
        self.assertEqual(error_of(run, HOUSE.without_script("pay"), [("do", "pay")], [0, 0]), (UnknownName, "pay"))

    def test_what_is_passed_stays(self):
        for function in (run, states):
            state = [1]
            _, held = error_of(function, HOUSE, [], state)
            self.assertEqual(state, [1])
            self.assertIsNot(held, state)
        rests = [1, 1]
        _, held = error_of(map_of, HOUSE, [("when", CASH, 2, rests, [], [])])
        self.assertEqual((rests, held, held is rests), ([1, 1], [1, 1], False))


class TestForms(unittest.TestCase):
    GOOD = ([[1, 0], [0, 1]], [0, 0])
    WRONG = [([], []), ([], [GOOD]), ([1], [([[1]], [0])]), ([1, 1, 1], [([[1, 0, 0]] * 3, [0, 0, 0])]),
             ([0, 1], []), ([0, 1], [GOOD]), ([-1, -1], [GOOD]), ([1, -2], [GOOD, GOOD]), ([-1, -2], [GOOD, GOOD]),
             ([1, 1], []), ([1, 1], [GOOD, GOOD]), ([2, 1], [GOOD]), ([2, 3], [GOOD] * 5), ([2, 3], [GOOD] * 7),
             ([1, 1], [([[1, 0]], [0])]), ([1, 1], [([[1, 0], [0, 1]], [0])]), ([1, 1], [([[1, 0]], [0, 0])]),
             ([1, 1], [([[1, 0], [0, 1]], [])]), ([1, 1], [([], [0, 0])]), ([1, 1], [([], [])]),
             ([1, 1], [([[1, 0], [0, 1], [0, 0]], [0, 0, 0])]), ([1, 1], [([[1], [0]], [0, 0])]),
             ([1, 1], [([[1, 0], [0]], [0, 0])]), ([1, 1], [([[1, 0], [0, 1, 0]], [0, 0])]),
             ([1, 2], [GOOD, ([[1, 0]], [0])]), ([1, 2], [GOOD, ([[1, 0], []], [0, 0])]),
             ([1, 1],), ([1, 1], [GOOD], [GOOD]), ([1, 1], [([[1, 0], [0, 1]],)]), ([1, 1], [GOOD + ([],)])]

    def test_wrong_forms(self):
        for form in self.WRONG:
            self.assertEqual(error_of(script_for, HOUSE, form), (InvalidForm, form))
            self.assertEqual(error_of(script_for, house=HOUSE, form=form), (InvalidForm, form))

    def test_form_that_an_error_holds_is_new(self):
        row = [1, 0]
        form = ([1, 1], [([row, row, row], [0, 0])])
        _, held = error_of(script_for, HOUSE, form)
        self.assertEqual(form, ([1, 1], [([[1, 0]] * 3, [0, 0])]))
        self.assertTrue(are_apart(held))
        passed = [id(one) for one in lists_within(form)]
        self.assertFalse([one for one in lists_within(held) if id(one) in passed])

    def test_good_forms(self):
        for form in (([1, 1], [self.GOOD]), ([2, 1], [self.GOOD] * 2), ([2, 3], [self.GOOD] * 6)):
            self.assertIsNone(error_of(script_for, HOUSE, form))
