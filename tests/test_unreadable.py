"""Promises 6 and 7 of readings.py: texts that are none."""

import unittest

from accountmaps.errors import Unreadable
from accountmaps.houses import House
from accountmaps.readings import read_formula, read_house, read_script, read_state
from tests.helping import error_of
from tests.telling import SIGNS, any_formula, any_house, any_script, chances, loosely, marred, some_number
from tests.telling import swapped_words, told_formula, told_house, told_script, told_state

INTEGERS = ["00", "01", "-0", "-00", "-01", "+5", "1000000000", "-1000000000", "- 5", "--5", "1a", "a1", "1.0", "1_0",
            "0x1", "5-", "", " ", "5 ", " 5", "1e3", "0000000000", "12345678901234567890" * 10]
FORMULAS = ["", " ", "()", "(a)", "(5)", "a ", " a", "(a+b)", "(a +b)", "(a + b", "a + b", "(a + b))", "(a  + b)",
            "(a + b )", "( a + b)", "[a + b]", "(a + b]", "(a * b)", "(a * 3)", "((1 + 2) * a)", "(3*a)", "(3 * )",
            "(a rest b)", "(a rest 0)", "(a rest -1)", "(a rest 1000000000)", "(a rest)", "(a rest (7))", "(rest 7)",
            "(a *  rest 7)", "(a + b + c)", "(a - b - c)", "(a / b)", "(a = b)", "abcdefghi", "A", "a b", "a;", "a_b",
            "(a rest 7 )", "(a  rest 7)", "(a rest  7)", "(a rest +7)", "(a rest 07)", "(+ a b)", "-", "-a", "(a - )",
            "(- a)", "(a -5)", "(a - - 5)", "(a, b)", "((a + b)", "(a))", "a\tb", "a\n", "(a rest 7) rest 7", "number 5"]
SCRIPTS = ["", " ", "- ", " -", "--", "-; -", "do", "do ", "do a ", " do a", "do a;", "do a; ", "do a;do b", "do a ;do b",
           "do a;  do b", "do a; ; do b", "do a; -", "-; do a", "do a b", "do 5", "do (a)", "do abcdefghi", "Do a",
           "set a", "set a ", "set 5 5", "set a 5 5", "set a b c", "set a  5", "set  a 5", "set a (b)", "put a",
           "put a -", "move a b", "move a 5", "move a a 5", "move a b c d", "swap a", "swap a a", "swap a b c",
           "swap a b 5", "swap  a b", "times", "times 2", "times 2 []", "times 2 [ ]", "times 2 [-", "times 2 -",
           "times 2 (-)", "times 2[-]", "times  2 [-]", "times 2  [-]", "times -1 [-]", "times -0 [-]", "times 02 [-]",
           "times a [-]", "times 1000000000 [-]", "times 2 [do a;]", "times 2 [do a] ", "times 2 [do a]]",
           "times 2 [[do a]]", "times 2 [do a]; ", "times 2 [-] else [-]", "times (1 + 1) [-]",
           "when a rest 7 in 0 [-]", "when a rest 7 in 0 [-] else -", "when a rest 7 in 0 [-] else [-",
           "when a rest 7 in 0 [-]else [-]", "when a rest 7 in 0 [-] [-]", "when a rest 7 in 0[-] else [-]",
           "when a rest 7 in  [-] else [-]", "when a rest 7 in [-] else [-]", "when a rest 7 in 0 0 [-] else [-]",
           "when a rest 7 in 1 0 [-] else [-]", "when a rest 7 in 7 [-] else [-]", "when a rest 7 in -1 [-] else [-]",
           "when a rest 7 in -0 [-] else [-]", "when a rest 7 in 00 [-] else [-]", "when a rest 7 in 0  1 [-] else [-]",
           "when a rest 7 in 0 - [-] else [-]", "when a rest 7 in - 0 [-] else [-]", "when a rest 0 in - [-] else [-]",
           "when a rest -7 in - [-] else [-]", "when a rest 07 in 0 [-] else [-]", "when a in 0 [-] else [-]",
           "when a rest b in 0 [-] else [-]", "when (a) rest 7 in 0 [-] else [-]", "when a rest 7 in 0, 1 [-] else [-]",
           "when a rest 7 in - [-] else [-] else [-]", "when a rest 7 in - [-] elsewhere [-]", "pay", "repeat 2 [-]",
           "set a (b rest 0)", "set a (2 * (b rest -3))", "when (a rest 0) rest 7 in - [-] else [-]",
           "times 2 [set a (b rest 0)]", "times 2 [swap a a]"]
HOUSES = ["", " ", "cash ", " cash", "cash  day", "cash cash", "Cash", "abcdefghi", "cash 5", "cash |", "cash | ",
          "cash | pay", "cash | pay:", "cash | pay: ", "cash | pay : -", "cash| pay: -", "cash |pay: -", "cash | pay:-",
          "cash | pay:  -", "cash | pay: - ", "cash | pay: - |", "cash | pay: - | ", "cash | pay: - | pay: -",
          "cash | pay: do pay", "cash | pay: do none", "cash | pay: do cash", "cash | pay: set day 5",
          "cash | pay: set cash day", "cash | a: do b | b: -", "cash day | pay: swap cash cash", "| pay: -", " | pay: -",
          "cash | abcdefghi: -", "cash | 5: -", "cash | pay: times -1 [-]", "cash | pay: set cash (cash rest 0)",
          "cash | pay: when cash rest 2 in 2 [-] else [-]", "cash | pay: when cash rest 2 in 1 0 [-] else [-]",
          "cash | pay: -; -", "cash || pay: -", "cash | pay: - - ", "cash | pay: put cash 1000000000",
          "cash | pay: times 0 [do none]", "cash | pay: move cash day 5", "cash: -", "cash; day", "cash, day", "-",
          "cash | pay: [-]", "cash |  pay: -", "cash  | pay: -", "cash | pay: do pay | pay: -"]
LOTS = [(read_formula, "formula"), (read_script, "script"), (read_state, "state")]


class TestRefused(unittest.TestCase):
    def refused(self, call, text):
        self.assertEqual(error_of(call, text), (Unreadable, text))
        self.assertEqual(error_of(call, text=text), (Unreadable, text))

    def test_integers(self):
        for text in INTEGERS:
            self.refused(read_state, text)
            self.refused(read_formula, text)
            self.refused(read_state, "0 " + text if text else "0 ")
            self.refused(read_script, f"set a {text}")
            self.refused(read_script, f"times {text} [-]")
            self.refused(read_script, f"when a rest {text} in - [-] else [-]")
            self.refused(read_script, f"when a rest 999999999 in {text} [-] else [-]")
            self.refused(read_formula, f"(a rest {text})")
            self.refused(read_formula, f"({text} * a)")

    def test_formulas(self):
        for text in FORMULAS:
            self.refused(read_formula, text)
            self.refused(read_script, "set a " + text)

    def test_scripts(self):
        for text in SCRIPTS:
            self.refused(read_script, text)
            self.refused(read_house, "a b c | pay: " + text)

    def test_houses(self):
        for text in HOUSES:
            self.refused(read_house, text)

    def test_states(self):
        for text in ["", " ", "0 ", " 0", "0  0", "a", "-", "0,0", "0;0", "[0]", "0 -", "- 0", "0-5", "0\n", "1 2 3 x"]:
            self.refused(read_state, text)

    def test_what_the_class_would_refuse(self):
        for chance in chances(221, 400):
            accounts, scripts = any_house(chance)
            lot = chance.randrange(4)
            if lot == 0:
                accounts = accounts + [chance.choice(accounts)]
            elif lot == 1 and scripts:
                scripts = scripts + [(chance.choice(scripts)[0], [])]
            elif lot == 2 and len(accounts) > 1:
                accounts = accounts[:-1]
            else:
                scripts = scripts[::-1]
            expected = error_of(House, accounts, scripts)
            text = told_house(accounts, scripts)
            if expected is None:
                self.assertEqual(read_house(text).scripts, scripts)
            else:
                self.refused(read_house, text)

    def test_deep_texts_that_are_none(self):
        for text in ["(" * 3000, "[" * 3000, "(" * 1499 + "a" + ")" * 1499, "times 1 [" * 330, "(a + " * 590,
                     "when a rest 1 in - [" * 150, "((1 * " * 490, ")" * 3000, "-" * 3000, " " * 3000, "a" * 3000,
                     "9" * 3000, "do a; " * 500, "(a rest " * 370]:
            for call in (read_formula, read_script, read_house, read_state):
                self.refused(call, text)
                self.refused(call, "a | a: " + text[:2990])


class TestMarred(unittest.TestCase):
    """Texts with one sign or one word put in, taken out or exchanged: as the loose reading tells."""

    def check(self, call, kind, text):
        expected = loosely(text, kind)
        if expected is None:
            self.assertEqual(error_of(call, text), (Unreadable, text))
        else:
            self.assertEqual(call(text), expected)
        return expected is not None

    def lot(self, seed, many, call, kind, made):
        read = 0
        for chance in chances(seed, many):
            text = made(chance)
            self.assertTrue(self.check(call, kind, text), text)
            for mar in (marred, marred, marred, swapped_words):
                read += self.check(call, kind, mar(chance, text))
                read += self.check(call, kind, mar(chance, mar(chance, text)))
        self.assertGreater(read, many // 4)

    def test_formulas(self):
        self.lot(222, 700, read_formula, "formula", lambda chance: told_formula(any_formula(chance, 4)))

    def test_scripts(self):
        self.lot(223, 700, read_script, "script", lambda chance: told_script(any_script(chance, 3)))

    def test_states(self):
        self.lot(224, 400, read_state, "state",
                 lambda chance: told_state([some_number(chance) for _ in range(chance.randint(1, 4))]))

    def test_each_place_of_a_text(self):
        for text, call, kind in (("set a (b rest 7); times 2 [-]", read_script, "script"), ("-5 0 10", read_state, "state"),
                                 ("when a rest 7 in 0 6 [-] else [do b]", read_script, "script"),
                                 ("((3 * a) - -10)", read_formula, "formula")):
            for at in range(len(text) + 1):
                self.check(call, kind, text[:at] + text[at + 1:])
                for sign in SIGNS:
                    self.check(call, kind, text[:at] + sign + text[at:])
                    self.check(call, kind, text[:at] + sign + text[at + 1:])

    def test_houses(self):
        read = 0
        for chance in chances(225, 700):
            text = told_house(*any_house(chance, 3))
            for mar in (marred, marred, swapped_words):
                read += self.check_house(mar(chance, text))
        self.assertGreater(read, 150)
        text = "a b | c: do a | d: swap a b; do c"
        for at in range(len(text) + 1):
            for sign in SIGNS:
                self.check_house(text[:at] + sign + text[at:])
                self.check_house(text[:at] + sign + text[at + 1:])

    def check_house(self, text):
        found = loosely(text, "house")
        if found is None or error_of(House, *found) is not None:
            self.assertEqual(error_of(read_house, text), (Unreadable, text))
            return False
        self.assertTrue(read_house(text) == House(*found))
        return True

    def test_any_signs(self):
        for chance in chances(226, 300):
            signs = chance.choice([SIGNS, list("(a+1) -*rest"), list("do a;[]-12 times"), list("0123 -")])
            text = "".join(chance.choice(signs) for _ in range(chance.choice([1, 2, 3, 5, 9, 30, 3000])))
            for call, kind in LOTS:
                self.check(call, kind, text)
            self.check_house(text)
