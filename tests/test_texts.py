"""Promise 5 of texts.py and readings.py: texts both ways."""

import unittest

from accountmaps.houses import House
from accountmaps.readings import read_formula, read_house, read_script, read_state
from accountmaps.texts import show_formula, show_house, show_script, show_state
from tests.helping import are_apart, spoil
from tests.telling import WORDS, any_formula, any_house, any_script, chances, some_number, told_formula, told_house
from tests.telling import told_script, told_state

A, B = ("account", "a"), ("account", "b")


class TestSignBySign(unittest.TestCase):
    def test_formulas(self):
        told = [(("number", 0), "0"), (("number", -5), "-5"), (("number", 10 ** 30), "1" + "0" * 30), (A, "a"),
                (("plus", A, B), "(a + b)"), (("less", A, ("number", -5)), "(a - -5)"), (("times", 3, A), "(3 * a)"),
                (("times", -3, ("number", 0)), "(-3 * 0)"), (("rest", A, 7), "(a rest 7)"),
                (("rest", ("less", A, ("number", -5)), 7), "((a - -5) rest 7)"),
                (("plus", ("times", 2, ("rest", B, 1)), ("less", A, ("plus", A, B))),
                 "((2 * (b rest 1)) + (a - (a + b)))")]
        for formula, text in told:
            self.assertEqual(show_formula(formula), text)
            if len(text) < 30:
                self.assertEqual(read_formula(text), formula)

    def test_deeds(self):
        told = [([], "-"), ([("set", "a", ("number", 5))], "set a 5"), ([("put", "b", A)], "put b a"),
                ([("move", "a", "b", ("times", 3, A))], "move a b (3 * a)"), ([("swap", "b", "a")], "swap b a"),
                ([("do", "pay")], "do pay"), ([("times", 0, [])], "times 0 [-]"),
                ([("times", 2, [("do", "a"), ("swap", "a", "b")])], "times 2 [do a; swap a b]"),
                ([("when", A, 7, [0, 6], [], [("do", "pay")])], "when a rest 7 in 0 6 [-] else [do pay]"),
                ([("when", ("rest", A, 7), 1, [], [("do", "a")], [])], "when (a rest 7) rest 1 in - [do a] else [-]"),
                ([("do", "a"), ("do", "b"), ("times", 1, [("times", 1, [])])], "do a; do b; times 1 [times 1 [-]]")]
        for script, text in told:
            self.assertEqual((show_script(script), read_script(text)), (text, script))

    def test_houses_and_states(self):
        house = House(["cash", "day"], [("pay", [("put", "cash", ("number", 5))]), ("none", [])])
        text = "cash day | pay: put cash 5 | none: -"
        self.assertEqual((show_house(house), read_house(text) == house), (text, True))
        self.assertEqual((show_house(House(["a"], [])), read_house("a") == House(["a"], [])), ("a", True))
        for state, text in (([0], "0"), ([0, -5], "0 -5"), ([999999999, -999999999, 7], "999999999 -999999999 7")):
            self.assertEqual((show_state(state), read_state(text)), (text, state))

    def test_words_of_the_language(self):
        for word in WORDS:
            other = WORDS[WORDS.index(word) - 1]
            formula = ("rest", ("less", ("account", word), ("account", other)), 7)
            script = [("set", word, ("account", word)), ("put", word, formula), ("move", word, other, formula),
                      ("swap", other, word), ("do", word), ("when", ("account", word), 2, [1], [("do", word)], [])]
            text = told_script(script)
            self.assertEqual((show_script(script), read_script(text)), (text, script))
            house = House([word, other], [(word, []), (other, [("do", word)] + script[:4])])
            self.assertTrue(read_house(show_house(house)) == house)
        self.assertEqual(read_script("do do; set set set; when rest rest 1 in - [do in] else [do else]"),
                         [("do", "do"), ("set", "set", ("account", "set")),
                          ("when", ("account", "rest"), 1, [], [("do", "in")], [("do", "else")])])
        self.assertEqual(read_formula("(rest rest 7)"), ("rest", ("account", "rest"), 7))

    def test_by_name(self):
        self.assertEqual([show_formula(formula=A), show_script(script=[]), show_state(state=[1]),
                          show_house(house=House(["a"], []))], ["a", "-", "1", "a"])
        self.assertEqual([read_formula(text="a"), read_script(text="-"), read_state(text="1"),
                          read_house(text="a").accounts], [A, [], [1], ["a"]])


class TestBothWays(unittest.TestCase):
    def test_formulas(self):
        for chance in chances(211, 400):
            formula = any_formula(chance, chance.randint(1, 6))
            text = show_formula(formula)
            self.assertEqual((text, read_formula(text)), (told_formula(formula), formula))

    def test_scripts(self):
        for chance in chances(212, 300):
            script = any_script(chance, chance.randint(1, 4))
            text = show_script(script)
            self.assertEqual((text, read_script(text)), (told_script(script), script))
            self.assertTrue(are_apart(read_script(text)))

    def test_houses(self):
        for chance in chances(213, 200):
            accounts, scripts = any_house(chance)
            house = House(accounts, scripts)
            text = show_house(house)
            self.assertEqual(text, told_house(accounts, scripts))
            again = read_house(text)
            self.assertTrue(again == house and isinstance(again, House))
            self.assertEqual((again.accounts, again.scripts, show_house(again)), (accounts, scripts, text))

    def test_states(self):
        for chance in chances(214, 100):
            state = [some_number(chance) for _ in range(chance.choice([1, 2, 5, 200]))]
            text = show_state(state)
            self.assertEqual((text, read_state(text)), (told_state(state), state))

    def test_deep_ones(self):
        one, other, script = A, A, [("put", "a", A)]
        for deep in range(25):
            one, other = ("plus", ("number", deep), one), ("rest", ("less", other, B), deep + 1)
            script = [("times", deep, script)] if deep % 2 else [("when", one, 2, [1], [], script), ("do", "b")]
        for formula in (one, other):
            self.assertEqual(read_formula(show_formula(formula)), formula)
        self.assertEqual(read_script(show_script(script)), script)

    def test_great_ones(self):
        formula = A
        for _ in range(30):
            formula = ("plus", formula, ("times", 5, B)) if len(show_formula(formula)) < 300 else formula
        letters = "abcdefghijklmnopqrstuvwxyz"
        accounts = [letter for letter in letters] + ["aa", "bb", "cc", "dd"]
        scripts = [(name, [("set", name, formula)] * 12) for name in accounts]
        house = House(accounts, scripts)
        self.assertTrue(read_house(show_house(house)) == house)
        script = [("times", 3, [("put", "a", formula)] * 40)] * 20
        self.assertEqual(read_script(show_script(script)), script)

    def test_lists(self):
        script = [("when", A, 7, [0, 6], [], [("times", 2, [("do", "pay")])])]
        before = repr(script)
        text = show_script(script)
        self.assertEqual(repr(script), before)
        one, other = read_script(text), read_script(text)
        self.assertTrue(are_apart(one, other, script))
        spoil([one, script])
        self.assertEqual((repr(other), repr(read_script(text))), (before, before))
        state = [1, 2]
        text = show_state(state)
        spoil([state, read_state(text)])
        self.assertEqual(read_state(text), [1, 2])
