"""Promise 13 of piles.py: the errors, and their order."""

import unittest

from accountmaps.errors import InvalidModulus, InvalidState, InvalidWord, TooShort, UnknownName
from accountmaps.houses import House
from accountmaps.piles import as_map, formula_program, gain, highest, need, parted, pile_form, program_of, run_on
from accountmaps.piles import same_programs, tidied
from tests.helping import error_of, refused

HOUSE = House(["cash", "day"], [])
WRONG = [("shift", -1, []), ("shift", 0, [1]), ("shift", 2, [1, 3]), ("shift", 2, [2, 0]), ("shift", 3, [-1]),
         ("rest", 0), ("rest", -7), ("choose", 0, [], [], []), ("choose", -2, [0], [], []), ("choose", 2, [2], [], []),
         ("choose", 2, [1, 0], [], []), ("choose", 3, [1, 1], [], []), ("choose", 3, [-1], [], []), ("repeat", -1, []),
         ("choose", 2, [1], [("push", 1)], []), ("choose", 1, [0], [], [("plus",)]),
         ("choose", 0, [], [("rest", 0)], []), ("repeat", -5, [("rest", 0)]),
         ("choose", 2, [0, 0], [("push", 1)], [("shift", 1, [2])]), ("turn",), ("plus", 1), ("push",)]
LAST = [("rest", 0), ("read", "none")]


class TestWords(unittest.TestCase):
    def check(self, wrong, *calls):
        refused(self, wrong, InvalidWord, *calls)

    def test_first_word(self):
        for wrong in WRONG:
            program = [("read", "none"), ("plus",), wrong] + LAST
            within = [("repeat", 0, [("choose", 2, [1], [("push", 1)], [("read", "cash"), wrong])])]
            if wrong[0] in ("rest",):
                within = [("repeat", 0, [("choose", 2, [1], [wrong], [])])]
            for told in (program, [("push", 1), ("repeat", 3, program)]):
                self.check(wrong, lambda: need(told), lambda: gain(told), lambda: highest(told), lambda: tidied(told),
                           lambda: run_on(HOUSE, told, [], []), lambda: pile_form(HOUSE, told),
                           lambda: as_map(HOUSE, told), lambda: same_programs(HOUSE, told, LAST),
                           lambda: same_programs(HOUSE, [("read", "none")], told), lambda: parted(HOUSE, told, LAST),
                           lambda: parted(HOUSE, [("write", "none")], told), lambda: need(program=told),
                           lambda: run_on(pile=[], state=[], program=told, house=HOUSE))
            self.check(wrong, lambda: need(within), lambda: gain(within), lambda: highest(within), lambda: tidied(within))

    def test_words_ahead_of_those_within_and_unlike_gains_behind(self):
        inner = ("rest", 0)
        self.check(inner, lambda: need([("choose", 2, [1], [("push", 1), inner], [])]))
        self.check(inner, lambda: need([("choose", 2, [1], [], [("push", 1), inner])]))
        ahead = ("choose", 2, [2], [inner], [])
        self.check(ahead, lambda: need([ahead]))
        unlike = ("choose", 2, [1], [("push", 1)], [("choose", 3, [], [], [("push", 2)])])
        self.check(unlike[4][0], lambda: need([unlike, inner]))
        apart = ("choose", 2, [1], [("push", 1)], [("choose", 3, [], [("push", 2)], [("push", 2)])])
        self.check(apart, lambda: need([("push", 1), apart, inner]))
        # A gain is the same by all that a program gains, also by what is repeated.
        for one, other in (([("repeat", 3, [("push", 1)])], [("push", 1)] * 3), ([("repeat", 0, [("push", 1)])], []),
                           ([("shift", 2, [1] * 3)], [("read", "cash")]), ([("plus",), ("push", 1)], [("rest", 2)])):
            self.assertIsNone(error_of(gain, [("choose", 2, [1], one, other)]))
            self.assertEqual(gain([("choose", 2, [1], one, other)]), gain(one) - 1)


class TestTheOthers(unittest.TestCase):
    def test_names(self):
        for program, name in (([("read", "none")], "none"), ([("push", 1), ("write", "zz"), ("read", "none")], "zz"),
                              ([("repeat", 0, [("read", "none")]), ("write", "zz")], "none"), ([("read", "")], ""),
                              ([("choose", 2, [], [("read", "b"), ("write", "cash")], [("read", "c"), ("write", "cash")])], "b"),
                              ([("choose", 2, [], [("read", "day")], [("read", "c")])], "c")):
            for call in (lambda: run_on(HOUSE, program, [], []), lambda: pile_form(HOUSE, program),
                         lambda: as_map(HOUSE, program), lambda: same_programs(HOUSE, [("plus",)], program),
                         lambda: same_programs(HOUSE, program, [("read", "other")]), lambda: parted(HOUSE, program, []),
                         lambda: parted(house=HOUSE, other=program, one=[])):
                self.assertEqual(error_of(call), (UnknownName, name))
            for call in (need, gain, highest, tidied):
                self.assertIsNone(error_of(call, program))

    def test_states_and_piles(self):
        for wrong in ([], [1], [1, 2, 3]):
            self.assertEqual(error_of(run_on, HOUSE, [("plus",)], wrong, []), (InvalidState, wrong))
            self.assertIsNot(error_of(run_on, HOUSE, [("plus",)], wrong, [])[1], wrong)
        for program, needs in (([("plus",)], 2), ([("shift", 5, [])], 5), ([("push", 1), ("shift", 5, [])], 4),
                               ([("repeat", 3, [("plus",)])], 4), ([("repeat", 0, [("plus",)]), ("write", "day")], 1),
                               ([("push", 0), ("choose", 1, [0], [("push", 1)], [("shift", 4, [1] * 5)])], 4)):
            for things in range(needs):
                self.assertEqual(error_of(run_on, HOUSE, program, [0, 0], [1] * things), (TooShort, needs))
                self.assertEqual(error_of(run_on, pile=[1] * things, state=[0, 0], program=program, house=HOUSE),
                                 (TooShort, needs))
            self.assertIsNone(error_of(run_on, HOUSE, program, [0, 0], [1] * needs))

    def test_formulas_and_scripts(self):
        for formula, modulus in ((("rest", ("account", "none"), 0), 0), (("plus", ("rest", ("number", 1), -3),
                                                                          ("rest", ("number", 1), 0)), -3),
                                 (("rest", ("rest", ("number", 1), 0), -1), 0)):
            self.assertEqual(error_of(formula_program, formula), (InvalidModulus, modulus))
            self.assertEqual(error_of(formula_program, formula=formula), (InvalidModulus, modulus))
        self.assertEqual(formula_program(("account", "none")), [("read", "none")])
        self.assertEqual(error_of(program_of, HOUSE, [("put", "none", ("number", 1))]), (UnknownName, "none"))
        self.assertEqual(error_of(program_of, script=[("do", "pay")], house=HOUSE), (UnknownName, "pay"))
        self.assertEqual(error_of(program_of, HOUSE, [("set", "cash", ("rest", ("number", 1), 0))]), (InvalidModulus, 0))

    def test_what_is_passed_stays(self):
        program = [("choose", 2, [1], [("shift", 1, [1, 1])], [("push", 2), ("shift", 0, [])])]
        before = repr(program)
        for call in (lambda: run_on(HOUSE, program, [1, 2], [3, 4]), lambda: tidied(program),
                     lambda: pile_form(HOUSE, program), lambda: parted(HOUSE, program, [("repeat", 1, program)])):
            call()
        self.assertEqual(repr(program), before)
