"""Promises 13, 14 and 21: kept sums, rests, roads, weights and powers, as they tell of one another."""

import random
import unittest

from accountmaps.deeds import map_of, run
from accountmaps.houses import House
from accountmaps.kept import is_kept, kept, kept_rests
from accountmaps.maps import at, joined, same_map
from accountmaps.reaching import against, rests_reached, road, shift, steps_of, way
from accountmaps.rounds import power
from tests.helping import all_rests, cases, some_script, weighted_sum
from tests.test_shifts import shift_map, some_shifts, summed


def moving_script(chance, accounts, moduli):
    """A script that mostly moves amounts, so that some sums stay."""
    script = []
    for _ in range(chance.randint(1, 3)):
        amount = chance.choice([("number", chance.randint(-3, 3)), ("account", chance.choice(accounts)),
                                ("rest", ("account", chance.choice(accounts)), chance.choice(moduli))])
        if len(accounts) == 1:
            script.append(("put", accounts[0], ("number", chance.choice([0, 2, 4, 6]))))
        else:
            script.append(("move",) + tuple(chance.sample(accounts, 2)) + (amount,))
    return script


class TestScriptsKeepTheirSums(unittest.TestCase):
    def check(self, chance, house, scripts, modulus):
        forms = [map_of(house, script) for script in scripts]
        state = [chance.randint(-9, 9) for _ in house.accounts]
        sums, rests = kept(forms), kept_rests(forms, modulus)
        reached = rests_reached(forms, state, modulus)
        now = state
        course = [chance.randrange(len(scripts)) for _ in range(8)]
        for done, index in enumerate(course):
            now = run(house, scripts[index], now)
            for weights in sums:
                self.assertEqual(weighted_sum(weights, now), weighted_sum(weights, state))
            for weights in rests:
                self.assertEqual((weighted_sum(weights, now) - weighted_sum(weights, state)) % modulus, 0)
            self.assertIn([amount % modulus for amount in now], reached)
            first = road(forms, state, now, modulus)
            self.assertLessEqual((len(first), first), (done + 1, course[:done + 1]))
            again = state
            for one in first:
                again = at(forms[one], again)
            self.assertEqual([amount % modulus for amount in again], [amount % modulus for amount in now])
        return len(sums)

    def test_scripts_that_move(self):
        chance = random.Random(141)
        held = 0
        for _ in range(60):
            accounts = ["a", "b", "c", "d"][:chance.randint(1, 4)]
            modulus = chance.choice([2, 4]) if len(accounts) < 4 else 2
            scripts = [moving_script(chance, accounts, [1, 2]) for _ in range(chance.randint(1, 3))]
            held += self.check(chance, House(accounts, []), scripts, modulus) > 0
        self.assertGreater(held, 20)

    def test_any_scripts(self):
        for chance, accounts, scripts, script in cases(142, 60, [[1, 2]], 3):
            other = some_script(chance, accounts, [1, 2], [name for name, _ in scripts], 1)
            house = House(accounts, scripts)
            moduli = map_of(house, script)[0] + map_of(house, other)[0]
            modulus = 4 if max(moduli) == 4 else 2
            if max(moduli) <= 4:
                self.check(chance, house, [script, other], modulus)


class TestShiftsByRoadsAndWeights(unittest.TestCase):
    def test_bars(self):
        chance = random.Random(143)
        seen = {"nought": 0, "modulus": 0}
        for _ in range(250):
            shifts = some_shifts(chance, 6)
            goal = [chance.randint(-9, 9) for _ in shifts[0]]
            forms, goal_form = [shift_map(one) for one in shifts], shift_map(goal)
            bar = against(shifts, goal)
            if bar is not None and bar[1] == 0:
                seen["nought"] += 1
                self.assertEqual((is_kept(forms, bar[0]), is_kept([goal_form], bar[0])), (True, False))
            elif bar is not None and bar[1] ** len(goal) <= 600:
                seen["modulus"] += 1
                weights = [weight % bar[1] for weight in bar[0]]
                self.assertIn(weights, kept_rests(forms, bar[1]))
                self.assertNotIn(weights, kept_rests([goal_form], bar[1]))
        self.assertGreater(min(seen.values()), 20)

    def test_roads_and_ways(self):
        chance = random.Random(144)
        for _ in range(80):
            shifts = some_shifts(chance, 9)
            many = len(shifts[0])
            modulus = chance.randint(1, [60, 24, 8, 4][many - 1])
            wholes = [[modulus if place == other else 0 for other in range(many)] for place in range(many)]
            for goal in chance.sample(all_rests([modulus] * many), min(8, modulus ** many)):
                first = road([shift_map(one) for one in shifts], [0] * many, list(goal), modulus)
                self.assertEqual(first is None, way(shifts + wholes, list(goal)) is None)

    def test_kept_weights_and_steps(self):
        chance = random.Random(145)
        for _ in range(120):
            shifts = some_shifts(chance, chance.choice([3, 100]))
            forms = [shift_map(one) for one in shifts]
            self.assertEqual([shift(form) for form in forms], shifts)
            basis, steps = kept(forms), steps_of(shifts)
            self.assertEqual(len(basis) + len(steps), len(shifts[0]))
            self.assertFalse(any(weighted_sum(weights, row) for weights in basis for row in steps))

    def test_powers_lead_to_the_goal(self):
        chance = random.Random(146)
        for _ in range(60):
            shifts = some_shifts(chance, chance.choice([3, 100]))
            goal = summed(shifts, [chance.randint(-10 ** 5, 10 ** 5) for _ in shifts])
            done = same_map(len(goal))
            for often, one in zip(way(shifts, goal), shifts):
                step = shift_map(one if often >= 0 else [-part for part in one])
                done = joined(done, power(step, abs(often)))
            self.assertEqual(done, shift_map(goal))
