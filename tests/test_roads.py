"""Promise 11: rests that are reached, and the first roads to them."""

import random
import unittest

from accountmaps.maps import same_map
from accountmaps.reaching import rests_reached, road
from tests.helping import all_rests, are_apart, form_at, some_calm_map, some_form, spoil, told_wider
from tests.test_shifts import shift_map

SELL, SWAP = shift_map([5, -1]), ([1, 1], [([[0, 1], [1, 0]], [0, 0])])


def rests_by(state, modulus):
    return [amount % modulus for amount in state]


def closed(forms, state, modulus):
    """All that is reached, told by a dict of the first roads; roads are tried in their order."""
    found = {tuple(rests_by(state, modulus)): []}
    roads = [([], rests_by(state, modulus))]
    while roads:
        more = []
        for one, rests in roads:
            for index, form in enumerate(forms):
                then = rests_by(form_at(form, rests), modulus)
                if tuple(then) not in found:
                    found[tuple(then)] = one + [index]
                    more.append((one + [index], then))
        roads = sorted(more)
    return found


class TestMadeUp(unittest.TestCase):
    def test_made_up(self):
        chance = random.Random(121)
        lengths = set()
        for _ in range(120):
            accounts = chance.randint(1, 4)
            modulus = chance.choice([[1, 12, 30, 60], [2, 6, 12], [2, 4, 6], [2, 3]][accounts - 1])
            forms = []
            for _ in range(chance.randint(1, 6)):
                moduli = [chance.choice([one for one in (1, 1, 2, 3, 4) if modulus % one == 0]) for _ in range(accounts)]
                some = some_calm_map if chance.random() < 0.7 else lambda source, told: some_form(source, told, 2)
                form = some(chance, moduli)
                forms.append(told_wider(form, [chance.choice([1, 2]) for _ in moduli]))
            state = [chance.randint(-99, 99) for _ in range(accounts)]
            expected = closed(forms, state, modulus)
            told = rests_reached(forms, state, modulus)
            self.assertEqual(told, [list(rests) for rests in sorted(expected)])
            self.assertTrue(are_apart(told))
            for rests in chance.sample(all_rests([modulus] * accounts), min(20, modulus ** accounts)):
                goal = [rest + modulus * chance.randint(-9, 9) for rest in rests]
                one = road(forms, state, goal, modulus)
                self.assertEqual(one, expected.get(rests))
                lengths.add(len(one) if one is not None else None)
        self.assertGreater(len(lengths), 8)


class TestPlain(unittest.TestCase):
    def test_examples(self):
        self.assertEqual(rests_reached([SWAP], [0, 1], 2), [[0, 1], [1, 0]])
        self.assertEqual([road([SELL, SWAP], [0, 0], [1, 0], 2), road([SWAP], [0, 1], [1, 1], 2)], [None, None])

    def test_empty_road(self):
        self.assertEqual(road([SELL], [7, 7], [7 + 600, 7 - 24], 24), [])
        self.assertEqual(road([same_map(1)], [0], [5], 1), [])
        self.assertEqual(rests_reached([SELL], [-9, 9], 1), [[0, 0]])

    def test_first_by_length_then_as_lists(self):
        one, two, three = shift_map([1]), shift_map([2]), shift_map([3])
        self.assertEqual(road([one, two, three], [0], [4], 10), [0, 2])
        self.assertEqual(road([three, two, one], [0], [4], 10), [0, 2])
        self.assertEqual(road([two, one, three], [0], [4], 10), [0, 0])
        self.assertEqual(road([one, one, three], [0], [9], 12), [2, 2, 2])
        self.assertEqual(road([one, one], [0], [3], 10), [0, 0, 0])

    def test_six_hundred(self):
        one = shift_map([1])
        self.assertEqual(road([one], [0], [-1], 600), [0] * 599)
        self.assertEqual(road([one, shift_map([-1])], [0], [-1], 600), [1])
        self.assertEqual(rests_reached([one], [5], 600), [[rest] for rest in range(600)])
        four = [shift_map([1 if place == other else 0 for other in range(4)]) for place in range(4)]
        self.assertEqual(rests_reached(four, [0] * 4, 4), [list(rests) for rests in all_rests([4] * 4)])
        self.assertEqual(road(four, [0] * 4, [3, 2, 1, 0], 4), [0, 0, 0, 1, 1, 2])

    def test_moduli_that_do_not_matter(self):
        wide = told_wider(SELL, [3, 5])
        self.assertEqual(road([wide], [0, 0], [1, 1], 2), [0])
        self.assertEqual(rests_reached([wide], [0, 0], 2), [[0, 0], [1, 1]])

    def test_all_states_with_these_rests(self):
        form = ([2], [([[1]], [1]), ([[3]], [1])])
        for state in (3, -1, 7, 99):
            self.assertEqual(rests_reached([form], [state], 4), [[2], [3]] if state % 4 == 3 else [[0], [1]])

    def test_by_name(self):
        self.assertEqual(rests_reached(modulus=2, state=[0, 1], forms=[SWAP]), [[0, 1], [1, 0]])
        self.assertEqual(road(modulus=2, goal=[1, 0], state=[0, 1], forms=[SWAP]), [0])

    def test_lists(self):
        forms, state, goal = [told_wider(SWAP, [2, 2])], [0, 1], [1, 0]
        before = repr((forms, state, goal))
        spoil(rests_reached(forms, state, 2))
        spoil(road(forms, state, goal, 2))
        self.assertEqual(repr((forms, state, goal)), before)
        told = rests_reached(forms, state, 2), road(forms, state, goal, 2)
        spoil([forms, state, goal])
        self.assertEqual(told, ([[0, 1], [1, 0]], [0]))
