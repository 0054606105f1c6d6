"""Promise 5: the values of formulas, in a state and as a form."""

import random
import unittest

from accountmaps.deeds import form_of, value
from accountmaps.houses import House
from tests.helping import are_apart, form_at, has_shape, is_least, plain_value, some_formula, states_for

HOUSE = House(["cash", "day"], [])
CASH, DAY = ("account", "cash"), ("account", "day")


class TestValue(unittest.TestCase):
    def test_each_kind(self):
        told = [("number", -7), CASH, DAY, ("plus", CASH, DAY), ("less", CASH, DAY), ("times", -3, DAY),
                ("rest", DAY, 3), ("rest", ("less", CASH, DAY), 7)]
        self.assertEqual([value(HOUSE, formula, [5, 11]) for formula in told], [-7, 5, 11, 16, -6, -33, 2, 1])

    def test_by_name(self):
        self.assertEqual(value(house=HOUSE, formula=("plus", CASH, DAY), state=[5, 11]), 16)

    def test_rests_of_numbers_below_nought(self):
        found = [value(HOUSE, ("rest", CASH, 3), [number, 0]) for number in range(-7, 4)]
        self.assertEqual(found, [2, 0, 1, 2, 0, 1, 2, 0, 1, 2, 0])
        self.assertEqual(value(HOUSE, ("rest", ("number", -10 ** 30), 7), [0, 0]), 7 - 10 ** 30 % 7)

    def test_rests_by_one(self):
        self.assertEqual([value(HOUSE, ("rest", CASH, 1), [number, 0]) for number in (-5, 0, 5)], [0, 0, 0])

    def test_rests_of_rests(self):
        formula = ("rest", ("rest", CASH, 7), 3)
        self.assertEqual([value(HOUSE, formula, [number, 0]) for number in range(-3, 9)],
                         [1, 2, 0, 0, 1, 2, 0, 1, 2, 0, 0, 1])

    def test_great_numbers(self):
        great = 10 ** 30
        self.assertEqual(value(HOUSE, ("times", great, ("plus", CASH, ("number", great))), [-10 ** 9, 0]),
                         great * (great - 10 ** 9))
        self.assertEqual(value(HOUSE, ("rest", ("times", -great, ("number", great)), great - 1), [0, 0]), great - 2)
        self.assertEqual(value(HOUSE, ("rest", ("number", -1), great), [0, 0]), great - 1)

    def test_sixty_parts(self):
        formula = CASH
        for _ in range(29):
            formula = ("plus", ("number", 1), formula)
        self.assertEqual(value(HOUSE, formula, [5, 0]), 34)
        deep = CASH
        for modulus in range(60, 1, -1):
            deep = ("rest", deep, modulus)
        self.assertEqual(value(HOUSE, deep, [-59, 0]), 1)

    def test_made_up_formulas(self):
        chance = random.Random(5)
        accounts = ["a", "b", "c", "d"]
        house = House(accounts, [])
        for _ in range(400):
            formula = some_formula(chance, accounts, [1, 2, 5, 12], 5)
            state = [chance.randint(-10 ** 9, 10 ** 9) for _ in accounts]
            self.assertEqual(value(house, formula, state), plain_value(formula, dict(zip(accounts, state))))


class TestFormOf(unittest.TestCase):
    def test_plain_ones(self):
        told = form_of(HOUSE, [("number", -7), CASH, ("less", ("times", 3, CASH), DAY)])
        self.assertEqual(told, ([1, 1], [([[0, 0], [1, 0], [3, -1]], [-7, 0, 0])]))

    def test_rests(self):
        self.assertEqual(form_of(house=HOUSE, formulas=[("rest", CASH, 2)]),
                         ([2, 1], [([[0, 0]], [0]), ([[0, 0]], [1])]))
        self.assertEqual(form_of(HOUSE, [("rest", ("times", 2, DAY), 4)]),
                         ([1, 2], [([[0, 0]], [0]), ([[0, 0]], [2])]))
        self.assertEqual(form_of(HOUSE, [("rest", DAY, 1)]), ([1, 1], [([[0, 0]], [0])]))

    def test_pieces_stand_in_the_order_of_rests(self):
        told = form_of(HOUSE, [("rest", CASH, 2), ("rest", DAY, 3)])
        self.assertEqual(told[0], [2, 3])
        self.assertEqual([amounts for _, amounts in told[1]], [[0, 0], [0, 1], [0, 2], [1, 0], [1, 1], [1, 2]])

    def test_least_way(self):
        whole = ("plus", ("less", CASH, ("rest", CASH, 6)), ("rest", CASH, 6))
        self.assertEqual(form_of(HOUSE, [whole]), ([1, 1], [([[1, 0]], [0])]))
        self.assertEqual(form_of(HOUSE, [("rest", ("rest", CASH, 12), 4)])[0], [4, 1])
        self.assertEqual(form_of(HOUSE, [("rest", ("rest", CASH, 4), 12)])[0], [4, 1])
        self.assertEqual(form_of(HOUSE, [("rest", ("rest", CASH, 3), 2)])[0], [3, 1])
        self.assertEqual(form_of(HOUSE, [("times", 0, ("rest", CASH, 12))])[0], [1, 1])
        self.assertEqual(form_of(HOUSE, [("rest", CASH, 4), ("rest", CASH, 6)])[0], [12, 1])

    def test_made_up_formulas(self):
        chance = random.Random(6)
        for _ in range(300):
            accounts = ["d", "a", "c", "b"][:chance.randint(1, 4)]
            moduli = chance.choice([[1, 2], [3], [4], [2, 3]] if len(accounts) > 2 else [[12], [5, 2], [7], [9, 3]])
            formulas = [some_formula(chance, accounts, moduli, 3) for _ in range(chance.randint(1, 3))]
            form = form_of(House(accounts, []), formulas)
            self.assertTrue(has_shape(form, len(accounts), len(formulas)))
            self.assertTrue(is_least(form) and are_apart(form))
            for state in states_for(chance, len(accounts), 4, 10 ** 9):
                amounts = dict(zip(accounts, state))
                self.assertEqual(form_at(form, state), [plain_value(formula, amounts) for formula in formulas])
