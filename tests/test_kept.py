"""Promises 6, 7 and 8: weighted sums that no map changes, and those that change."""

import random
import unittest

from accountmaps.kept import changing, is_kept, kept, kept_rests
from accountmaps.maps import same_map
from tests.helping import all_rests, are_apart, form_at, is_in_steps, is_sum_of, small_moduli, some_form
from tests.helping import some_keeping_map, spoil, states_in_order, telling_states, told_wider, weighted_sum

SELL = ([1, 1], [([[1, 0], [0, 1]], [5, -1])])
SWAP = ([1, 1], [([[0, 1], [1, 0]], [0, 0])])
NIGHT = ([1, 3], [([[1, 0], [0, 0]], [0, 1]), ([[1, 0], [0, 0]], [0, 2]), ([[1, 0], [0, 0]], [0, 0])])


def stays(forms, weights):
    """Whether no map changes the sum by some weights."""
    return all(weighted_sum(weights, form_at(form, state)) == weighted_sum(weights, state)
               for form in forms for state in telling_states(form))


def rest_stays(forms, weights, modulus):
    return all((weighted_sum(weights, form_at(form, state)) - weighted_sum(weights, state)) % modulus == 0
               for form in forms for state in telling_states(form))


def lots_of_maps(seed, many):
    """Tuples (chance, forms): lists of one to six maps, most of which keep some sums."""
    chance = random.Random(seed)
    for _ in range(many):
        accounts = chance.randint(1, 4)
        weights = [[chance.randint(-3, 3) for _ in range(accounts)] for _ in range(chance.randint(1, 2))]
        forms = []
        for _ in range(chance.randint(1, 6)):
            moduli = small_moduli(chance, accounts, chance.choice([1, 4, 6]))
            form = some_keeping_map(chance, moduli, weights, 2 if accounts < 4 else 1)
            if chance.random() < 0.1:
                form = some_form(chance, moduli, 1)
            forms.append(told_wider(form, [chance.choice([1, 1, 2]) for _ in moduli]))
        yield chance, forms


class TestKept(unittest.TestCase):
    def test_made_up(self):
        ranks = set()
        for chance, forms in lots_of_maps(101, 150):
            accounts = len(forms[0][0])
            basis = kept(forms)
            ranks.add((accounts, len(basis)))
            self.assertTrue(is_in_steps(basis) and are_apart(basis))
            for weights in basis:
                self.assertTrue(stays(forms, weights) and is_kept(forms, weights))
            some = states_in_order(accounts, 3 if accounts < 4 else 1)
            for weights in chance.sample(some, min(len(some), 40)):
                expected = is_sum_of(basis, weights)
                self.assertEqual([stays(forms, weights), is_kept(forms, weights)], [expected] * 2)
        self.assertGreater(len(ranks), 8)

    def test_all_weights_and_not_multiples_alone(self):
        # The weights form all of a plane: no weight is left out because only twice as much was found.
        self.assertEqual(kept([([1, 1], [([[1, 0], [0, 1]], [2, -2])])]), [[1, 1]])
        self.assertEqual(kept([([1, 1], [([[1, 0], [0, 1]], [6, 4])])]), [[2, -3]])
        self.assertEqual(kept([([1] * 3, [([[1, 0, 0], [0, 1, 0], [0, 0, 1]], [2, 3, 5])])]), [[1, 1, -1], [0, 5, -3]])
        self.assertEqual(kept([([1] * 3, [([[3, 0, 0], [4, 1, 0], [6, 0, 1]], [0, 0, 0])])]), [[1, 1, -1], [0, 3, -2]])

    def test_plain(self):
        self.assertEqual([kept([SELL]), kept([SELL, NIGHT]), kept([SWAP]), kept([SELL, SWAP])],
                         [[[1, 5]], [], [[1, 1]], []])
        for accounts in range(1, 5):
            same = same_map(accounts)
            self.assertEqual(kept([same] * 3), [same[1][0][0][row] for row in range(accounts)])
            self.assertEqual(kept([([1] * accounts, [([[0] * accounts] * accounts, [0] * accounts)])]), [])

    def test_rests(self):
        # Only at one rest of the day anything is lost.
        form = ([1, 7], [([[1, 0], [0, 1]], [0, 0])] * 6 + [([[1, 0], [0, 1]], [3, -1])])
        self.assertEqual([kept([form]), is_kept([form], [1, 3]), is_kept([form], [1, 2])], [[[1, 3]], True, False])

    def test_six_hundred_pieces_six_times(self):
        chance = random.Random(102)
        forms = [some_keeping_map(chance, [5, 4, 5, 6], [[1, 2, -1, 3]], 1) for _ in range(6)]
        basis = kept(forms)
        self.assertEqual((basis, is_kept(forms, [2, 4, -2, 6])), ([[1, 2, -1, 3]], True))

    def test_great_numbers(self):
        great = 10 ** 90
        form = ([1, 1], [([[1, 0], [0, 1]], [great, -great * 3])])
        self.assertEqual((kept([form]), is_kept([form], [3 * 10 ** 8, 10 ** 8])), ([[3, 1]], True))

    def test_by_name(self):
        self.assertEqual([kept(forms=[SELL]), is_kept(weights=[2, 10], forms=[SELL]), is_kept([SELL], [0, 0])],
                         [[[1, 5]], True, True])

    def test_lists(self):
        forms = [([2, 1], [([[1, 0], [0, 1]], [5, -1]), ([[1, 0], [0, 1]], [10, -2])])]
        before = repr(forms)
        told = kept(forms)
        spoil(told)
        self.assertEqual((repr(forms), kept(forms)), (before, [[1, 5]]))
        told = kept(forms)
        spoil(forms)
        self.assertEqual(told, [[1, 5]])


class TestChanging(unittest.TestCase):
    def test_made_up(self):
        chance = random.Random(103)
        moved = 0
        for _ in range(150):
            accounts = chance.choice([1, 2, 2, 3, 4])
            weights = [chance.randint(-3, 3) for _ in range(accounts)]
            forms = []
            for _ in range(chance.randint(1, 6)):
                top = {1: [6], 2: [4, 2], 3: [2, 1, 2], 4: [1] * 4}[accounts]
                form = some_keeping_map(chance, top, [weights], 1)
                if chance.random() < 0.3:
                    form[1][-1][1][0] += 1
                forms.append(told_wider(form, [chance.choice([1, 2]) for _ in top]))
            told = changing(forms, weights)
            moved += told is not None
            self.assertEqual(told, self.tried(forms, weights))
            self.assertEqual(told is None, is_kept(forms, weights))
        self.assertGreater(moved, 30)

    def tried(self, forms, weights):
        for index, form in enumerate(forms):
            for state in states_in_order(len(weights), max(form[0])):
                if weighted_sum(weights, form_at(form, state)) != weighted_sum(weights, state):
                    return index, state
        return None

    def test_plain(self):
        self.assertEqual([changing([SELL, NIGHT], [1, 5]), changing([SELL], [1, 0]), changing([SELL], [1, 5])],
                         [(1, [0, 0]), (0, [0, 0]), None])
        self.assertEqual(changing([SWAP], [1, 0]), (0, [-1, 0]))
        self.assertEqual(changing(weights=[0, 1], forms=[same_map(2), SWAP]), (1, [-1, 0]))

    def test_far_from_nought(self):
        form = ([60], [([[1]], [1 if rest == 31 else 0]) for rest in range(60)])
        self.assertEqual(changing([same_map(1), form], [2]), (1, [-29]))

    def test_lists(self):
        forms, weights = [same_map(2), SWAP], [0, 1]
        _, state = changing(forms, weights)
        spoil(state)
        self.assertEqual((forms, weights), ([same_map(2), SWAP], [0, 1]))


class TestKeptRests(unittest.TestCase):
    def test_made_up(self):
        unlike = set()
        for chance, forms in lots_of_maps(104, 100):
            accounts = len(forms[0][0])
            modulus = chance.randint(1, {1: 30, 2: 9, 3: 4, 4: 3}[accounts])
            told = kept_rests(forms, modulus)
            unlike.add(len(told))
            every = [list(weights) for weights in all_rests([modulus] * accounts)]
            self.assertEqual(told, [weights for weights in every if rest_stays(forms, weights, modulus)])
            self.assertTrue(are_apart(told))
        self.assertGreater(len(unlike), 5)

    def test_plain(self):
        self.assertEqual(kept_rests([SELL], 3), [[0, 0], [1, 2], [2, 1]])
        self.assertEqual(kept_rests([SELL], 1), [[0, 0]])
        self.assertEqual(kept_rests([NIGHT], 3), [[0, 0], [1, 0], [2, 0]])
        self.assertEqual(kept_rests([([1], [([[7]], [12])])], 6), [[0], [1], [2], [3], [4], [5]])
        self.assertEqual(kept_rests([([1], [([[4]], [12])])], 6), [[0], [2], [4]])
        self.assertEqual(kept_rests([([1], [([[4]], [12])]), ([1], [([[1]], [3])])], 6), [[0], [2], [4]])

    def test_the_modulus_of_the_maps_does_not_divide_it(self):
        five = ([5], [([[1]], [0])] * 4 + [([[1]], [2])])
        self.assertEqual(kept_rests([five], 4), [[0], [2]])
        half = ([2], [([[1]], [0]), ([[3]], [-2])])
        self.assertEqual(kept_rests([half], 4), [[0], [1], [2], [3]])
        self.assertEqual(kept_rests([half], 8), [[0], [2], [4], [6]])

    def test_six_hundred_weights(self):
        one = ([600], [([[1]], [6 * rest]) for rest in range(600)])
        self.assertEqual(kept_rests([one] * 6, 600), [[weight] for weight in range(0, 600, 100)])
        self.assertEqual(kept_rests(modulus=4, forms=[same_map(4)]), [list(one) for one in all_rests([4] * 4)])
