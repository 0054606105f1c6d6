"""Promise 4 of plans.py: times, powers and plans, as they tell of one another."""

import math
import random
import unittest

from accountmaps.deeds import map_of, run
from accountmaps.houses import House
from accountmaps.plans import reached, unlike_maps
from accountmaps.rounds import after, comes_round, comes_round_at, power
from tests.helping import cases, states_for


def calm_script(chance, accounts):
    """A script of which much comes round."""
    script = []
    for _ in range(chance.randint(1, 3)):
        one = chance.choice(accounts)
        told = ("account", one)
        deeds = [("set", one, ("rest", ("plus", told, ("number", 1)), chance.choice([2, 3]))),
                 ("set", one, ("times", -1, told)), ("set", one, ("number", chance.randint(0, 2)))]
        if len(accounts) > 1:
            deeds.append(("swap",) + tuple(chance.sample(accounts, 2)))
        script.append(chance.choice(deeds))
    return script


class TestWhole(unittest.TestCase):
    def test_times_and_powers(self):
        for chance, accounts, scripts, script in cases(201, 120, [[1, 2], [3], [1]], 3):
            house = House(accounts, scripts)
            form = map_of(house, script)
            times = chance.randint(0, 6)
            if math.lcm(*form[0]) ** len(accounts) <= 600:
                again = [("times", times, script)]
                self.assertEqual(power(form, times), map_of(house, again))
                for state in states_for(chance, len(accounts), 2, 10 ** 9):
                    modulus = chance.randint(1, 10 ** 9)
                    self.assertEqual(after(form, state, times, modulus),
                                     [amount % modulus for amount in run(house, again, state)])

    def test_plans_of_one_name(self):
        chance = random.Random(202)
        rounds = 0
        for _ in range(150):
            accounts = ["a", "b", "c"][:chance.randint(1, 3)]
            script = calm_script(chance, accounts)
            if chance.random() < 0.2:
                script = script + [("put", accounts[0], ("number", 1))]
            house = House(accounts, [("one", script)])
            form = map_of(house, script)
            if math.lcm(*form[0]) ** len(accounts) > 60:
                continue
            self.check_maps(house, comes_round(form))
            for _ in range(3):
                state = [chance.randint(-4, 4) for _ in accounts]
                self.check_states(house, state, comes_round_at(form, state))
            rounds += comes_round(form) is not None
        self.assertGreater(rounds, 30)

    def check_maps(self, house, told):
        for most in range(7):
            every = most + 1 if told is None else min(most + 1, sum(told))
            self.assertEqual(unlike_maps(house, ["one"], most), every)

    def check_states(self, house, state, told):
        for most in range(7):
            every = most + 1 if told is None else min(most + 1, sum(told))
            self.assertEqual(reached(house, ["one"], state, most), every)
