"""Promise 8: scripts for forms."""

import math
import random
import unittest

from accountmaps.deeds import map_of, run, script_for
from accountmaps.houses import House
from tests.helping import are_apart, form_at, is_least, lists_within, some_form, states_for

NAMES = ["cash", "day", "stock", "zz"]


def some_moduli(chance, many):
    """Moduli that multiply to at most 12."""
    moduli = [1] * many
    for _ in range(3):
        place = chance.randrange(many)
        modulus = chance.choice([1, 2, 3, 4, 5, 6, 7, 9, 11, 12])
        if math.prod(moduli) // moduli[place] * modulus <= 12:
            moduli[place] = modulus
    return moduli


class TestPlainForms(unittest.TestCase):
    def check(self, matrix, amounts=None):
        many = len(matrix)
        form = ([1] * many, [(matrix, amounts or [0] * many)])
        house = House(NAMES[:many], [])
        self.assertEqual(map_of(house, script_for(house, form)), form)

    def test_one_account(self):
        for number in range(-9, 10):
            self.check([[number]], [-number])

    def test_two_accounts(self):
        for numbers in ([0, 1, 1, 0], [0, 0, 0, 0], [0, 1, 0, 0], [0, 0, 1, 0], [1, 1, 1, 1], [2, 3, 5, 7],
                        [-1, 0, 0, -1], [0, -1, 1, 0], [6, 9, -4, -6], [9, -9, 9, -9], [0, 5, 0, -3], [4, 0, 6, 0]):
            self.check([numbers[:2], numbers[2:]], [3, -3])

    def test_all_small_ones(self):
        for a in range(-2, 3):
            for b in range(-2, 3):
                for c in range(-2, 3):
                    for d in range(-2, 3):
                        self.check([[a, b], [c, d]])

    def test_of_any_determinant(self):
        self.check([[0, 0, 1], [1, 0, 0], [0, 1, 0]])
        self.check([[1, 2, 3], [2, 4, 6], [3, 6, 9]])
        self.check([[0, 0, 9], [0, 0, 0], [9, 9, 9]], [1, 2, 3])
        self.check([[0, 0, 0, 1], [0, 0, 1, 0], [0, 1, 0, 0], [1, 0, 0, 0]], [9, 0, -9, 1])
        self.check([[9, -8, 7, 6], [-5, 4, 3, -2], [1, 9, -9, 8], [7, 7, -6, 5]])


class TestForms(unittest.TestCase):
    def test_each_rest_has_its_own(self):
        chance = random.Random(41)
        for _ in range(250):
            many = chance.randint(1, 4)
            form = some_form(chance, some_moduli(chance, many), chance.choice([1, 2, 9]))
            house = House(NAMES[:many], [("pay", [])])
            script = script_for(house, form)
            told = map_of(house, script)
            self.assertTrue(is_least(told))
            if is_least(form):
                self.assertEqual(told, form)
            for state in states_for(chance, many, 6, 10 ** 9):
                expected = form_at(form, state)
                self.assertEqual([form_at(told, state), run(house, script, state)], [expected, expected])

    def test_forms_that_are_not_least(self):
        chance = random.Random(42)
        house = House(["a", "b"], [])
        for _ in range(60):
            small = some_form(chance, [chance.choice([1, 2]), 1], 9)
            pieces = [small[1][first % small[0][0]] for first in range(4) for _ in range(3)]
            told = map_of(house, script_for(house, ([4, 3], pieces)))
            self.assertEqual(told, map_of(house, script_for(house, small)))
            for state in states_for(chance, 2, 4, 99):
                self.assertEqual(form_at(told, state), form_at(small, state))

    def test_one_modulus_of_twelve(self):
        house = House(["a"], [])
        form = ([12], [([[rest % 5 - 2]], [rest - 6]) for rest in range(12)])
        self.assertEqual(map_of(house, script_for(house=house, form=form)), form)

    def test_kinds(self):
        for moduli in ([12, 1], [3, 4], [1, 1]):
            self.check_kinds(script_for(House(["a", "b"], []), some_form(random.Random(45), moduli, 9)))

    def check_kinds(self, script):
        self.assertIsInstance(script, list)
        for deed in script:
            self.assertIsInstance(deed, tuple)
            self.assertIn(deed[0], ["set", "put", "swap", "when"])
            if deed[0] == "when":
                self.assertEqual([len(deed), isinstance(deed[2], int), isinstance(deed[3], list)], [6, True, True])
                self.check_kinds(deed[4])
                self.check_kinds(deed[5])

    def test_not_deep(self):
        house = House(["a", "b"], [])
        for moduli in ([12, 1], [1, 12], [3, 4], [6, 2]):
            script = script_for(house, some_form(random.Random(43), moduli, 9))
            depth, lot = 0, [script]
            while lot:
                depth += 1
                lot = [inner for one in lot for deed in one if deed[0] == "when" for inner in deed[4:]]
            self.assertLessEqual(depth, 60)

    def test_script_for_the_house(self):
        house = House(["zz", "a"], [("a", []), ("pay", [])])
        form = some_form(random.Random(44), [2, 3], 9)
        script = script_for(house, form)
        more = house.with_script("new", script)
        self.assertEqual(map_of(more, [("do", "new")]), form)
        self.assertEqual(map_of(more, [("times", 1, script)]), form)

    def test_lists(self):
        piece = ([[1, 2], [2, 4]], [5, 6])
        form = ([2, 2], [piece, piece, ([[0, 1], [1, 0]], [0, 0]), piece])
        house = House(["a", "b"], [])
        script = script_for(house, form)
        self.assertTrue(are_apart(script))
        passed = [id(one) for one in lists_within(form)]
        self.assertFalse([one for one in lists_within(script) if id(one) in passed])
        self.assertEqual(form, ([2, 2], [([[1, 2], [2, 4]], [5, 6])] * 2 + [([[0, 1], [1, 0]], [0, 0])]
                                + [([[1, 2], [2, 4]], [5, 6])]))
