"""Promise 3 of maps.py: maps of scripts, one behind the other, in one state and for all."""

import random
import unittest

from accountmaps.deeds import asked, changed, form_of, map_of, run, script_for, states, value
from accountmaps.houses import House
from accountmaps.maps import alike, at, first_unlike, hangs_on, joined, least, same_map
from tests.helping import cases, some_form, some_formula, some_script, states_for


class TestWhole(unittest.TestCase):
    def check(self, chance, accounts, scripts, script, moduli):
        house = House(accounts, scripts)
        ahead = [name for name, _ in scripts]
        other = some_script(chance, accounts, moduli, ahead, 1)
        one_map, other_map = map_of(house, script), map_of(house, other)
        both = map_of(house, script + other)
        self.assertEqual(joined(one_map, other_map), both)
        self.assertEqual((least(both), least(one_map)), (both, one_map))
        formulas = [some_formula(chance, accounts, moduli, 2) for _ in range(chance.randint(1, 3))]
        question = form_of(house, formulas)
        for state in states_for(chance, len(accounts), 4, 10 ** 9):
            then = run(house, script, state)
            self.assertEqual((at(one_map, state), at(both, state)), (then, run(house, other, then)))
            self.assertEqual(states(house, script, state)[-1:], [then] if script else [])
            self.assertEqual(at(question, state), [value(house, formula, state) for formula in formulas])
            self.assertEqual(at(joined(one_map, question), state), at(question, then))
        self.check_what_hangs(house, script, one_map)
        self.check_parting(house, script, other, one_map, other_map)

    def check_what_hangs(self, house, script, form):
        accounts = house.accounts
        many = range(len(accounts))
        same = same_map(len(accounts))
        moved = [name for place, name in enumerate(accounts)
                 if first_unlike(self.row(form, place), self.row(same, place)) is not None]
        self.assertEqual(changed(house, script), sorted(moved))
        told = [accounts[one] for one in many if any(hangs_on(form, other, one) for other in many if other != one)]
        self.assertEqual(asked(house, script), sorted(told))

    def row(self, form, result):
        return form[0], [([matrix[result]], [amounts[result]]) for matrix, amounts in form[1]]

    def check_parting(self, house, script, other, one_map, other_map):
        state = first_unlike(one_map, other_map)
        self.assertEqual([state is None] * 2, [alike(one_map, other_map), one_map == other_map])
        if state is not None:
            self.assertNotEqual(run(house, script, state), run(house, other, state))

    def test_two_accounts(self):
        for moduli in ([1], [2], [3], [2, 4]):
            for chance, accounts, scripts, script in cases(91 + len(moduli), 40, [moduli], 2):
                self.check(chance, accounts, scripts, script, moduli)

    def test_four_accounts(self):
        for chance, accounts, scripts, script in cases(94, 60, [[1, 2]], 4):
            self.check(chance, accounts, scripts, script, [1, 2])

    def test_scripts_for_forms(self):
        chance = random.Random(95)
        for _ in range(60):
            accounts = ["a", "b", "c"][:chance.randint(1, 3)]
            house = House(accounts, [])
            moduli = [chance.choice([1, 2]) for _ in accounts]
            one, other = some_form(chance, moduli, 2), some_form(chance, moduli, 2)
            scripts = script_for(house, one) + script_for(house, other)
            self.assertEqual(map_of(house, scripts), joined(one, other))
            self.assertTrue(alike(map_of(house, script_for(house, one)), one))
            self.assertIsNone(first_unlike(one, map_of(house, script_for(house, least(one)))))

    def test_what_was_there_alone(self):
        """The rests of what a map makes hang on the rests of what was there."""
        chance = random.Random(96)
        for _ in range(40):
            form = least(some_form(chance, [2, 3], 4))
            for state in states_for(chance, 2, 4, 99):
                near = [state[0] + 6 * chance.randint(-9, 9), state[1] - 6 * chance.randint(-9, 9)]
                self.assertEqual([amount % 6 for amount in at(form, state)], [one % 6 for one in at(form, near)])
