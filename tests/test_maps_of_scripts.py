"""Promise 7: the maps of scripts."""

import random
import unittest

from accountmaps.deeds import map_of
from accountmaps.houses import House
from tests.helping import are_apart, cases, form_at, has_shape, is_least, plain_run, spoil, states_for

CASH, DAY = ("account", "cash"), ("account", "day")
HOUSE = House(["cash", "day"], [("pay", [("put", "cash", ("number", 5))]), ("none", []),
                                ("night", [("put", "day", ("number", 1)), ("set", "day", ("rest", DAY, 7))])])
SAME = ([1, 1], [([[1, 0], [0, 1]], [0, 0])])


class TestPlainMaps(unittest.TestCase):
    def test_nothing_is_done(self):
        for script in ([], [("do", "none")], [("times", 0, [("do", "pay")])], [("times", 9, [])],
                       [("when", CASH, 12, [3], [], [])], [("swap", "cash", "day"), ("swap", "day", "cash")]):
            self.assertEqual(map_of(HOUSE, script), SAME)

    def test_each_deed(self):
        told = [("set", "cash", ("number", 4)), ("put", "day", ("less", CASH, DAY)), ("move", "cash", "day", CASH),
                ("swap", "cash", "day"), ("do", "pay"), ("times", 3, [("put", "cash", DAY)])]
        expected = [([[0, 0], [0, 1]], [4, 0]), ([[1, 0], [1, 0]], [0, 0]), ([[0, 0], [1, 1]], [0, 0]),
                    ([[0, 1], [1, 0]], [0, 0]), ([[1, 0], [0, 1]], [5, 0]), ([[1, 3], [0, 1]], [0, 0])]
        for deed, piece in zip(told, expected):
            self.assertEqual(map_of(HOUSE, [deed]), ([1, 1], [piece]))

    def test_by_name(self):
        self.assertEqual(map_of(house=HOUSE, script=[("do", "pay")]), ([1, 1], [([[1, 0], [0, 1]], [5, 0])]))


class TestRests(unittest.TestCase):
    def test_night(self):
        told = map_of(HOUSE, [("do", "night")])
        self.assertEqual(told[0], [1, 7])
        self.assertEqual(told[1], [([[1, 0], [0, 0]], [0, (day + 1) % 7]) for day in range(7)])

    def test_when(self):
        told = map_of(HOUSE, [("when", DAY, 2, [1], [("set", "cash", DAY)], [("do", "pay")])])
        self.assertEqual(told, ([1, 2], [([[1, 0], [0, 1]], [5, 0]), ([[0, 1], [0, 1]], [0, 0])]))

    def test_rests_that_are_none_or_all(self):
        def by(modulus, rests):
            return map_of(HOUSE, [("when", DAY, modulus, rests, [("do", "pay")], [("swap", "cash", "day")])])

        paid, swapped = map_of(HOUSE, [("do", "pay")]), map_of(HOUSE, [("swap", "cash", "day")])
        self.assertEqual([by(3, []), by(3, [0, 1, 2]), by(1, []), by(1, [0])], [swapped, paid, swapped, paid])

    def test_least_way(self):
        even = [("when", DAY, 12, [0, 2, 4, 6, 8, 10], [("do", "pay")], [])]
        self.assertEqual(map_of(HOUSE, even)[0], [1, 2])
        alike = [("when", DAY, 12, [5], [("do", "pay")], [("put", "cash", ("number", 5))])]
        self.assertEqual(map_of(HOUSE, alike), map_of(HOUSE, [("do", "pay")]))
        self.assertEqual(map_of(HOUSE, [("do", "night"), ("do", "night")])[0], [1, 7])
        self.assertEqual(map_of(HOUSE, [("do", "night"), ("set", "day", CASH)])[0], [1, 1])

    def test_branches_that_change_what_was_asked(self):
        halved = [("when", DAY, 2, [0], [("put", "day", ("number", 1))], [("put", "day", ("number", -1))])]
        self.assertEqual(map_of(HOUSE, halved + halved), SAME)

    def test_great_on_the_way(self):
        rests = ("plus", ("rest", CASH, 12), ("plus", ("rest", CASH, 11), ("rest", DAY, 12)))
        script = [("put", "day", rests), ("put", "cash", rests), ("set", "cash", ("number", 0)), ("set", "day", CASH)]
        self.assertEqual(map_of(HOUSE, script), ([1, 1], [([[0, 0], [0, 0]], [0, 0])]))

    def test_six_hundred_pieces(self):
        house = House(["a", "b", "c", "d"], [])
        moduli = [5, 4, 5, 6]
        script = [("set", name, ("rest", ("account", name), modulus)) for name, modulus in zip("abcd", moduli)]
        told = map_of(house, [("times", 40, script)])
        self.assertEqual((told[0], len(told[1])), (moduli, 600))
        self.assertEqual(form_at(told, [-1, -1, 11, 11]), [4, 3, 1, 5])

    def test_five_hundred_deeds(self):
        often = [("times", 20, [("times", 25, [("put", "cash", ("plus", ("rest", DAY, 3), ("rest", CASH, 2)))])])]
        told = map_of(HOUSE, often)
        self.assertTrue(is_least(told))
        for state in ([0, 0], [1, 1], [0, 2], [-7, -8]):
            self.assertEqual(form_at(told, state), plain_run(["cash", "day"], [], often, state))

    def test_doing_nothing_very_often(self):
        nothing = [("times", 40, [("times", 40, [("times", 40, [("times", 40, [])])])])]
        self.assertEqual(map_of(HOUSE, nothing * 12), SAME)
        scripts = [("a", [("times", 0, [("set", "x", ("number", 1))])])]
        for before, one in zip("abcdefghijk", "bcdefghijkl"):
            scripts.append((one, [("do", before)] * 6 + [("when", ("account", "x"), 2, [0], [("do", before)], [])] * 6))
        self.assertEqual(map_of(House(["x"], scripts), [("do", "l")]), ([1], [([[1]], [0])]))


class TestMadeUp(unittest.TestCase):
    def check(self, chance, accounts, scripts, script):
        house = House(accounts, scripts)
        form = map_of(house, script)
        self.assertTrue(has_shape(form, len(accounts), len(accounts)))
        self.assertTrue(is_least(form) and are_apart(form))
        for state in states_for(chance, len(accounts), 6, 10 ** 9):
            self.assertEqual(form_at(form, state), plain_run(accounts, scripts, script, state))
        self.assertEqual(map_of(house.with_script("new", script), [("do", "new")]), form)

    def test_four_accounts(self):
        for case in cases(31, 250, [[1, 2], [2], [3], [4]]):
            self.check(*case)

    def test_two_accounts(self):
        for case in cases(32, 250, [[12], [2, 3], [5, 1], [7], [9, 3], [4, 8], [10]], 2):
            self.check(*case)

    def test_all_rests_are_right(self):
        chance = random.Random(33)
        for _, accounts, scripts, script in cases(34, 40, [[2, 3], [4]], 2):
            form = map_of(House(accounts, scripts), script)
            for moved in range(-1, 2):
                states = [[]]
                for modulus in form[0]:
                    states = [state + [rest + moved * modulus] for state in states for rest in range(modulus)]
                for state in chance.sample(states, min(len(states), 40)):
                    self.assertEqual(form_at(form, state), plain_run(accounts, scripts, script, state))

    def test_what_is_passed_stays(self):
        script = [("when", DAY, 3, [0, 2], [("do", "pay")], []), ("times", 2, [("do", "night")])]
        told = map_of(HOUSE, script)
        spoil(told)
        self.assertEqual(script, [("when", DAY, 3, [0, 2], [("do", "pay")], []), ("times", 2, [("do", "night")])])
        self.assertEqual(map_of(HOUSE, script)[0], [1, 21])
