"""Promise 3 of plans.py: its errors."""

import random
import unittest

from accountmaps.errors import InvalidForm, InvalidNumber, InvalidState, UnknownName
from accountmaps.houses import House
from accountmaps.plans import cheapest, fewest, fewest_map, needless, reached, unlike_maps
from tests.helping import are_apart, error_of, lists_within, some_form, some_results, spoilt_forms

HOUSE = House(["cash", "day"], [("pay", [("put", "cash", ("number", 5))]), ("night", [])])
FORM = some_form(random.Random(1), [2, 1], 3)


class TestErrors(unittest.TestCase):
    def test_unknown_names(self):
        for names, name in ((["x"], "x"), (["pay", "cash", "x"], "cash"), (["pay", "night", "zz"], "zz"),
                            (["day", "pay"], "day")):
            for call in (lambda: fewest(HOUSE, names, [], [1], -1), lambda: fewest_map(HOUSE, names, ([], []), -1),
                         lambda: cheapest(HOUSE, names, [-1], [], [], -1), lambda: reached(HOUSE, names, [], -1),
                         lambda: unlike_maps(HOUSE, names, -1), lambda: needless(HOUSE, names, -1),
                         lambda: needless(most=0, names=names, house=HOUSE)):
                self.assertEqual(error_of(call), (UnknownName, name))

    def test_costs(self):
        for costs in ([], [1], [-1], [1, 2, 3], [-1, -2, -3]):
            self.assertEqual(error_of(cheapest, HOUSE, ["pay", "night"], costs, [], [1], -1), (InvalidNumber, costs))
            _, held = error_of(cheapest, HOUSE, ["pay", "night"], costs, [1, 2], [3, 4], 1)
            self.assertIsNot(held, costs)
        for costs, cost in (([-1, -2], -1), ([0, -10 ** 30], -10 ** 30), ([5, -3], -3)):
            self.assertEqual(error_of(cheapest, HOUSE, ["pay", "night"], costs, [], [1], -1), (InvalidNumber, cost))
        self.assertEqual(error_of(cheapest, HOUSE, [], [0], [], [], -1), (InvalidNumber, [0]))

    def test_states(self):
        for state in ([], [1], [1, 2, 3]):
            calls = [lambda: fewest(HOUSE, ["pay"], state, [1], -1), lambda: fewest(HOUSE, ["pay"], [1, 2], state, -1),
                     lambda: cheapest(HOUSE, ["pay"], [0], state, [], -1), lambda: reached(HOUSE, [], state, -1),
                     lambda: cheapest(HOUSE, ["pay"], [0], [1, 2], state, -1),
                     lambda: fewest(most=1, goal=state, state=[1, 2], names=[], house=HOUSE)]
            for call in calls:
                self.assertEqual(error_of(call), (InvalidState, state))
            _, held = error_of(reached, HOUSE, [], state, 1)
            self.assertIsNot(held, state)

    def test_forms(self):
        wrongs = list(spoilt_forms(FORM))
        wrongs += [some_results(random.Random(seed), moduli, results, 3)
                   for seed, moduli, results in ((1, [1], 1), (2, [1, 1], 1), (3, [2, 1], 3), (4, [1, 1, 1], 3))]
        for wrong in wrongs:
            self.assertEqual(error_of(fewest_map, HOUSE, ["pay"], wrong, -1), (InvalidForm, wrong))
            self.assertEqual(error_of(fewest_map, most=2, form=wrong, names=[], house=HOUSE), (InvalidForm, wrong))
        row = [1, 0]
        wrong = ([1, 1], [([row, row, row], [0, 0])])
        _, held = error_of(fewest_map, HOUSE, [], wrong, 1)
        self.assertTrue(are_apart(held))
        self.assertFalse({id(one) for one in lists_within(held)} & {id(one) for one in lists_within(wrong)})

    def test_most(self):
        for most in (-1, -10 ** 9):
            calls = [lambda: fewest(HOUSE, ["pay"], [1, 2], [1, 2], most), lambda: reached(HOUSE, [], [1, 2], most),
                     lambda: fewest_map(HOUSE, ["pay"], FORM, most), lambda: unlike_maps(HOUSE, ["pay"], most),
                     lambda: cheapest(HOUSE, ["pay"], [0], [1, 2], [3, 4], most),
                     lambda: needless(HOUSE, ["pay", "night"], most)]
            for call in calls:
                self.assertEqual(error_of(call), (InvalidNumber, most))

    def test_what_is_right(self):
        for most in (0, 1, 2):
            for call in (lambda: fewest(HOUSE, [], [1, 2], [1, 3], most), lambda: reached(HOUSE, ["pay"], [1, 2], most),
                         lambda: fewest_map(HOUSE, ["pay"], FORM, most), lambda: needless(HOUSE, [], most),
                         lambda: cheapest(HOUSE, ["pay"], [0], [1, 2], [3, 4], most)):
                self.assertIsNone(error_of(call))
