"""Promise 2 of maps.py: one form behind another one."""

import random
import unittest

from accountmaps.maps import joined, least, same_map
from tests.helping import all_rests, are_apart, form_at, has_shape, is_least, lists_within, small_moduli
from tests.helping import some_results, spoil, states_for, told_wider

HALF = ([2], [([[1]], [0]), ([[1]], [1])])
DAY = ([7], [([[0]], [(rest + 1) % 7]) for rest in range(7)])


class TestJoined(unittest.TestCase):
    def check(self, chance, one, other):
        told = joined(one, other)
        self.assertTrue(has_shape(told, len(one[0]), len(other[1][0][0])))
        self.assertTrue(is_least(told) and are_apart(told))
        for state in states_for(chance, len(one[0]), 8, 10 ** 9):
            self.assertEqual(form_at(told, state), form_at(other, form_at(one, state)))
        return told

    def test_any_numbers_of_accounts_and_results(self):
        chance = random.Random(71)
        for _ in range(250):
            accounts, between, results = [chance.randint(1, 4) for _ in range(3)]
            one = some_results(chance, small_moduli(chance, accounts, 4), between, chance.choice([1, 2, 9]))
            other = some_results(chance, small_moduli(chance, between, 3), results, chance.choice([1, 2, 9]))
            self.check(chance, one, other)

    def test_all_rests_are_right(self):
        chance = random.Random(72)
        for _ in range(120):
            accounts = chance.randint(1, 2)
            one = some_results(chance, small_moduli(chance, accounts, 6), 2, 2)
            other = some_results(chance, small_moduli(chance, 2, 6), 1, 2)
            told = joined(one, other)
            for moved in (-1, 1):
                for rests in all_rests(told[0]):
                    state = [rest + moved * modulus for rest, modulus in zip(rests, told[0])]
                    self.assertEqual(form_at(told, state), form_at(other, form_at(one, state)))

    def test_told_wider(self):
        chance = random.Random(73)
        for _ in range(60):
            one = some_results(chance, small_moduli(chance, 2, 4), 2, 1)
            other = some_results(chance, small_moduli(chance, 2, 4), 2, 1)
            wider = told_wider(one, chance.choice([[2, 3], [5, 1], [1, 7]]))
            self.assertEqual(joined(wider, told_wider(other, chance.choice([[3, 2], [1, 5]]))), joined(one, other))

    def test_rests_come_together(self):
        self.assertEqual(joined(HALF, HALF), HALF)
        doubled = ([1], [([[2]], [0])])
        self.assertEqual(joined(doubled, HALF), ([1], [([[2]], [0])]))
        self.assertEqual(joined(HALF, ([2], [([[1]], [0]), ([[1]], [5])])), HALF)
        self.assertEqual(joined(DAY, DAY), ([7], [([[0]], [(rest + 2) % 7]) for rest in range(7)]))

    def test_rests_are_made_finer(self):
        self.assertEqual(joined(([2], [([[3]], [0]), ([[1]], [0])]), DAY)[0], [14])
        self.assertEqual(joined(([1, 1], [([[1, 1]], [0])]), HALF),
                         ([2, 2], [([[1, 1]], [0]), ([[1, 1]], [1]), ([[1, 1]], [1]), ([[1, 1]], [0])]))

    def test_rests_that_are_lost(self):
        """What comes out is plain, though the rests of what stands between would need very many pieces."""
        one = ([1] * 4, [([[1, 1, 1, 1], [1, 1, 1, 1]], [0, 0])])
        other = ([600, 1], [([[rest, -rest]], [5]) for rest in range(600)])
        self.assertEqual(joined(one, other), ([1] * 4, [([[0] * 4], [5])]))
        set_to = ([1] * 4, [([[0] * 4] * 4, [7, 8, 9, 10])])
        wide = ([5, 4, 5, 6], [([[place, 0, 0, 0]], [place]) for place in range(600)])
        place = ((2 * 4 + 0) * 5 + 4) * 6 + 4
        self.assertEqual(joined(set_to, wide), ([1] * 4, [([[0] * 4], [place * 7 + place])]))

    def test_six_hundred_pieces(self):
        one = ([600], [([[1]], [rest]) for rest in range(600)])
        told = self.check(random.Random(74), one, one)
        self.assertEqual((told[0], told[1][1], told[1][599]), ([600], ([[1]], [3]), ([[1]], [599 + 598])))
        four = ([5, 4, 5, 6], [([[0] * 4] * 4, [rests[1], rests[0] % 4, rests[2], rests[3]])
                               for rests in all_rests([5, 4, 5, 6])])
        self.assertEqual(self.check(random.Random(75), four, four)[0], [5, 4, 5, 6])

    def test_great_numbers(self):
        great = 10 ** 90
        one, other = ([1], [([[great]], [1])]), ([2], [([[1]], [0]), ([[great]], [great])])
        self.assertEqual(joined(one, other), ([1], [([[great * great]], [2 * great])]))

    def test_by_name(self):
        five = ([1], [([[1]], [5])])
        self.assertEqual(joined(other=HALF, one=five), ([2], [([[1]], [6]), ([[1]], [5])]))
        self.assertEqual(joined(one=HALF, other=five), ([2], [([[1]], [5]), ([[1]], [6])]))

    def test_lists(self):
        form = told_wider(HALF, [3])
        passed = [id(one) for one in lists_within(form)]
        told = joined(form, form)
        self.assertFalse([one for one in lists_within(told) if id(one) in passed])
        spoil(told)
        self.assertEqual(form, told_wider(HALF, [3]))
        kept = joined(form, HALF)
        spoil(form)
        self.assertEqual(kept, HALF)


class TestSameMap(unittest.TestCase):
    def test_same_map(self):
        for accounts in range(1, 7):
            form = same_map(accounts)
            self.assertTrue(has_shape(form, accounts, accounts) and are_apart(form))
            self.assertEqual((form[0], form_at(form, list(range(5, 5 + accounts)))),
                             ([1] * accounts, list(range(5, 5 + accounts))))
        self.assertEqual(same_map(accounts=1), ([1], [([[1]], [0])]))

    def test_ahead_or_behind(self):
        chance = random.Random(76)
        for _ in range(60):
            accounts, results = chance.randint(1, 4), chance.randint(1, 4)
            form = some_results(chance, small_moduli(chance, accounts, 8), results, 1)
            wider = told_wider(form, [chance.choice([1, 2]) for _ in range(accounts)])
            self.assertEqual(joined(same_map(accounts), wider), least(form))
            self.assertEqual(joined(wider, same_map(results)), least(form))
