"""Promise 6: scripts are run, in one state."""

import unittest

from accountmaps.deeds import run, states
from accountmaps.houses import House
from tests.helping import are_apart, cases, lists_within, plain_run, spoil, states_for

HOUSE = House(["cash", "day"], [("pay", [("put", "cash", ("number", 5))]), ("none", []),
                                ("cash", [("do", "pay"), ("do", "none"), ("times", 2, [("do", "pay")])])])
CASH, DAY, ONE = ("account", "cash"), ("account", "day"), ("number", 1)


class TestRun(unittest.TestCase):
    def test_each_deed(self):
        told = [("set", "cash", DAY), ("put", "cash", DAY), ("put", "cash", CASH), ("move", "day", "cash", ONE),
                ("move", "cash", "day", CASH), ("swap", "day", "cash"), ("do", "pay"), ("do", "cash"),
                ("times", 3, [("put", "day", ONE)])]
        self.assertEqual([run(HOUSE, [deed], [10, 3]) for deed in told],
                         [[3, 3], [13, 3], [20, 3], [11, 2], [0, 13], [3, 10], [15, 3], [25, 3], [10, 6]])

    def test_formulas_stand_ahead_of_the_deed(self):
        self.assertEqual(run(HOUSE, [("move", "cash", "day", ("plus", CASH, DAY))], [10, 3]), [-3, 16])
        self.assertEqual(run(HOUSE, [("set", "cash", DAY), ("set", "day", CASH)], [10, 3]), [3, 3])

    def test_empty_scripts(self):
        empty = [[], [("do", "none")], [("times", 40, [])], [("times", 0, [("do", "pay")])],
                 [("times", 40, [("do", "none")])], [("when", CASH, 2, [0], [], [])]]
        self.assertEqual([run(HOUSE, script, [10, 3]) for script in empty], [[10, 3]] * 6)

    def test_times(self):
        self.assertEqual([run(HOUSE, [("times", many, [("do", "pay")])], [0, 0])[0] for many in (0, 1, 2, 40)],
                         [0, 5, 10, 200])
        self.assertEqual(run(HOUSE, [("times", 3, [("put", "cash", CASH), ("times", 2, [("put", "day", CASH)])])],
                             [1, 0]), [8, 28])

    def test_when(self):
        def by(modulus, rests):
            script = [("when", DAY, modulus, rests, [("set", "cash", ONE)], [("set", "cash", ("number", 2))])]
            return [run(HOUSE, script, [0, day])[0] for day in range(-4, 5)]

        self.assertEqual(by(3, [0, 1]), [2, 1, 1, 2, 1, 1, 2, 1, 1])
        self.assertEqual(by(3, [2]), [1, 2, 2, 1, 2, 2, 1, 2, 2])
        self.assertEqual((by(3, []), by(3, [0, 1, 2])), ([2] * 9, [1] * 9))
        self.assertEqual((by(1, []), by(1, [0])), ([2] * 9, [1] * 9))

    def test_when_asks_once(self):
        script = [("when", DAY, 2, [0], [("put", "day", ONE), ("put", "cash", ONE)], [("put", "day", ONE)])]
        self.assertEqual([run(HOUSE, script, [0, 0]), run(HOUSE, script, [0, 1])], [[1, 1], [0, 2]])

    def test_great_amounts_and_numbers(self):
        great = 10 ** 30
        self.assertEqual(run(HOUSE, [("put", "cash", ("times", great, DAY)), ("set", "day", ("rest", CASH, great))],
                             [-10 ** 9, 10 ** 9]), [10 ** 39 - 10 ** 9, great - 10 ** 9])
        self.assertEqual(run(HOUSE, [("swap", "cash", "day")], [10 ** 9, -10 ** 9]), [-10 ** 9, 10 ** 9])

    def test_two_thousand_deeds(self):
        self.assertEqual(run(HOUSE, [("times", 40, [("times", 50, [("put", "day", ONE)])])], [0, 0]), [0, 2000])

    def test_doing_nothing_very_often(self):
        nothing = [("times", 40, [("times", 40, [("times", 40, [("times", 40, []), ("do", "none")])])])]
        self.assertEqual(run(HOUSE, nothing * 12, [1, 2]), [1, 2])
        scripts = [("a", [])] + [(one, [("do", before)] * 12) for before, one in zip("abcdefghijk", "bcdefghijkl")]
        self.assertEqual(run(House(["x"], scripts), [("do", "l")], [7]), [7])

    def test_houses_got_by_with_and_without(self):
        house = HOUSE.with_script("more", [("do", "cash"), ("do", "pay")]).without_script("more")
        house = house.with_script("more", [("do", "pay")])
        self.assertEqual(run(house, [("do", "more")], [0, 0]), [5, 0])
        self.assertEqual(run(house=house, script=[("do", "cash")], state=[0, 0]), [15, 0])

    def test_made_up_scripts(self):
        for chance, accounts, scripts, script in cases(21, 300, [[1, 2], [3, 7], [12, 5]]):
            house = House(accounts, scripts)
            for state in states_for(chance, len(accounts), 3, 10 ** 9):
                self.assertEqual(run(house, script, state), plain_run(accounts, scripts, script, state))


class TestStates(unittest.TestCase):
    def test_one_for_each_deed(self):
        script = [("do", "cash"), ("times", 3, [("put", "day", ONE)]), ("times", 0, [("do", "pay")]),
                  ("when", DAY, 3, [0], [("do", "pay"), ("swap", "cash", "day")], []), ("do", "none")]
        self.assertEqual(states(HOUSE, script, [0, 0]), [[15, 0], [15, 3], [15, 3], [3, 20], [3, 20]])

    def test_empty(self):
        self.assertEqual(states(house=HOUSE, script=[], state=[1, 2]), [])

    def test_the_last_is_that_of_run(self):
        for chance, accounts, scripts, script in cases(22, 200, [[1, 2], [3, 7], [12, 5]]):
            house = House(accounts, scripts)
            state = [chance.randint(-10 ** 9, 10 ** 9) for _ in accounts]
            told = states(house, script, state)
            self.assertEqual(told, [run(house, script[:place + 1], state) for place in range(len(script))])
            self.assertTrue(are_apart(told))


class TestNothingIsKept(unittest.TestCase):
    def test_what_is_passed_stays(self):
        inner = [("put", "cash", ONE)]
        script, state = [("times", 2, inner), ("do", "pay")], [1, 2]
        told = [run(HOUSE, script, state), states(HOUSE, script, state)]
        self.assertEqual((script, state), ([("times", 2, [("put", "cash", ONE)]), ("do", "pay")], [1, 2]))
        spoil(told)
        self.assertEqual((script, state, inner), ([("times", 2, inner), ("do", "pay")], [1, 2], [("put", "cash", ONE)]))
        self.assertEqual(run(HOUSE, script, state), [8, 2])

    def test_lists_that_are_told_are_new(self):
        state = [1, 2]
        for told in (run(HOUSE, [], state), states(HOUSE, [("do", "none")] * 3, state)):
            self.assertTrue(are_apart(told, state))
            self.assertNotIn(id(state), [id(one) for one in lists_within(told)])
