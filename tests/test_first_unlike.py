"""Promise 4 of maps.py: the first states at which two forms part."""

import random
import unittest

from accountmaps.maps import alike, first_unlike, least
from tests.helping import all_rests, form_at, some_results, states_in_order, told_wider

SAME = ([1], [([[1]], [0])])


def with_one_change(chance, form):
    """The form with another number in one place."""
    moduli, pieces = form
    table = [([list(row) for row in matrix], list(amounts)) for matrix, amounts in pieces]
    matrix, amounts = chance.choice(table)
    if chance.random() < 0.5:
        chance.choice(matrix)[chance.randrange(len(moduli))] += chance.choice([-1, 1, 5])
    else:
        amounts[chance.randrange(len(amounts))] += chance.choice([-1, 1, 5])
    return moduli, table


class TestFirstUnlike(unittest.TestCase):
    def check(self, one, other):
        told = first_unlike(one, other)
        self.assertEqual(told is None, least(one) == least(other))
        self.assertEqual(told is None, alike(one, other))
        if told is not None:
            for state in states_in_order(len(one[0]), max(abs(amount) for amount in told)):
                parted = form_at(one, state) != form_at(other, state)
                self.assertEqual(parted, state == told)
                if parted:
                    break
        self.assertEqual(first_unlike(other, one), told)
        return told

    def test_none_if_least_ways_are_the_same(self):
        chance = random.Random(81)
        for moduli in ([6], [2, 4], [2, 1, 1], [1] * 4):
            for _ in range(20):
                form = some_results(chance, moduli, chance.randint(1, 3), 1)
                self.assertIsNone(self.check(form, told_wider(form, [chance.choice([1, 2]) for _ in moduli])))

    def test_made_up(self):
        chance = random.Random(82)
        lots = [([12], [12]), ([60], [60]), ([4], [5]), ([4, 2], [2, 4]), ([3, 1], [1, 3]), ([2, 1, 1], [1, 2, 2]),
                ([1] * 4, [1] * 4)]
        for moduli, others in lots:
            for _ in range(25):
                results = chance.randint(1, 2)
                one = some_results(chance, moduli, results, chance.choice([1, 3]))
                self.check(one, some_results(chance, others, results, 1))
                self.check(one, with_one_change(chance, one))

    def test_one_rest_alone(self):
        for modulus in (1, 2, 7, 59, 60):
            for rest in range(0, modulus, 7):
                form = ([modulus], [([[1]], [1 if one == rest else 0]) for one in range(modulus)])
                told = self.check(form, SAME)
                self.assertEqual(told, [rest if rest < modulus - rest else rest - modulus])

    def test_rests_where_both_are_nought_nearby(self):
        # At the one rest where they part, the first state with this rest is one in which they are alike.
        form = ([5], [([[1]], [0]), ([[1]], [0]), ([[4]], [-6]), ([[1]], [0]), ([[1]], [0])])
        self.assertEqual(self.check(form, SAME), [-3])
        form = ([5], [([[1]], [0]), ([[1]], [0]), ([[1]], [0]), ([[4]], [6]), ([[1]], [0])])
        self.assertEqual(self.check(form, SAME), [3])

    def test_order(self):
        first, second = ([1, 1], [([[1, 0]], [0])]), ([1, 1], [([[0, 1]], [0])])
        self.assertEqual(self.check(first, second), [-1, 0])
        self.assertEqual(self.check(first, ([1, 1], [([[0, 0]], [0])])), [-1, -1])
        self.assertEqual(self.check(first, ([1, 1], [([[1, 0]], [3])])), [0, 0])
        self.assertEqual(self.check(([1, 1], [([[1, 1]], [0])]), ([1, 1], [([[0, 0]], [0])])), [-1, -1])
        self.assertEqual(self.check(([1, 1], [([[1, -1]], [0])]), ([1, 1], [([[0, 0]], [0])])), [-1, 0])
        four = ([1] * 4, [([[1, 1, 1, 1]], [2])])
        self.assertEqual(self.check(four, ([1] * 4, [([[0] * 4], [2])])), [-1, -1, -1, -1])
        self.assertEqual(self.check(([1] * 4, [([[0, 0, 0, 1]], [0])]), ([1] * 4, [([[0] * 4], [0])])), [-1] * 4)
        self.assertEqual(self.check(([1] * 4, [([[0, 0, 0, 1]], [1])]), ([1] * 4, [([[0] * 4], [0])])), [0] * 4)

    def test_some_result(self):
        one = ([1, 1], [([[1, 0], [0, 1], [2, 3]], [0, 0, 0])])
        self.assertEqual(self.check(one, ([1, 1], [([[1, 0], [0, 1], [2, 4]], [0, 0, 0])])), [-1, -1])

    def test_both_ways_of_a_rest(self):
        for rests in all_rests([3, 3]):
            form = ([3, 3], [([[1, 0]], [1 if one == rests else 0]) for one in all_rests([3, 3])])
            told = self.check(form, ([1, 1], [([[1, 0]], [0])]))
            self.assertEqual(told, [{0: 0, 1: 1, 2: -1}[rest] for rest in rests])

    def test_beyond_the_bounds(self):
        one = some_results(random.Random(83), [600], 1, 0)
        one[1][301][1][0] = 4
        self.assertEqual(first_unlike(one, ([1], [([[0]], [0])])), [-299])
        far = some_results(random.Random(84), [2, 2, 2, 2], 1, 0)
        far[1][15][1][0] = 1
        self.assertEqual(first_unlike(far, ([1] * 4, [([[0] * 4], [0])])), [-1, -1, -1, -1])

    def test_by_name(self):
        told = first_unlike(other=SAME, one=([1], [([[2]], [0])]))
        self.assertEqual(told, [-1])
        told.append(5)
        self.assertEqual(first_unlike(one=([1], [([[2]], [0])]), other=SAME), [-1])
