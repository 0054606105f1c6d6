"""Promise 1 of maps.py: forms in their least way, and what is asked of one form."""

import random
import unittest

from accountmaps.maps import alike, at, hangs_on, is_plain, least, matrices
from tests.helping import all_rests, are_apart, form_at, has_shape, is_least, lists_within, plain_least, small_moduli
from tests.helping import some_results, spoil, states_for, telling_states, told_wider

HALF = ([2], [([[1]], [0]), ([[1]], [1])])
BOTH = ([2, 3], [([[0, part]], [part // 3]) for part in range(6)])


def made_up(seed, many, most):
    """Tuples (chance, form, the same form told wider)."""
    chance = random.Random(seed)
    for _ in range(many):
        accounts = chance.randint(1, 4)
        form = some_results(chance, small_moduli(chance, accounts, 24), chance.randint(1, 3), most)
        product = len(form[1])
        factors = [1] * accounts
        for place in range(accounts):
            factors[place] = chance.choice([one for one in (1, 1, 2, 3, 5) if product * one <= 600])
            product *= factors[place]
        yield chance, form, told_wider(form, factors)


class TestLeast(unittest.TestCase):
    def test_told_in_many_ways(self):
        for chance, form, wider in made_up(61, 150, 1):
            told = least(wider)
            self.assertEqual(told, plain_least(form))
            self.assertEqual(least(form), told)
            self.assertTrue(is_least(told) and has_shape(told, len(form[0]), len(form[1][0][0])))
            for state in states_for(chance, len(form[0]), 4, 10 ** 9):
                self.assertEqual(form_at(told, state), form_at(form, state))

    def test_each_modulus_by_itself(self):
        self.assertEqual(least(([4], [([[1]], [0]), ([[1]], [1])] * 2)), HALF)
        self.assertEqual(least(([6, 1], [([[1, 0]], [rest % 3]) for rest in range(6)])),
                         ([3, 1], [([[1, 0]], [rest]) for rest in range(3)]))
        # The sum of two rests by 2 needs both of them.
        crossed = ([2, 2], [([[0, 0]], [0]), ([[0, 0]], [1]), ([[0, 0]], [1]), ([[0, 0]], [0])])
        self.assertEqual(least(crossed), crossed)
        self.assertEqual(least(told_wider(crossed, [3, 2])), crossed)

    def test_six_hundred_pieces(self):
        one = ([600], [([[rest % 7]], [rest % 3]) for rest in range(600)])
        self.assertEqual(least(one), one)
        self.assertEqual(least(([600], [([[rest % 8]], [rest % 3]) for rest in range(600)]))[0], [24])
        self.assertEqual(least(([600], [([[5]], [1])] * 600)), ([1], [([[5]], [1])]))
        four = ([5, 4, 5, 6], [([[sum(rests) % 2, 0, 0, 0]], [rests[2]]) for rests in all_rests([5, 4, 5, 6])])
        self.assertEqual(least(four)[0], [5, 2, 5, 2])

    def test_moduli_of_one(self):
        self.assertEqual(least(([1, 1], [([[1, 2]], [3])])), ([1, 1], [([[1, 2]], [3])]))

    def test_by_name(self):
        self.assertEqual([least(form=HALF), at(form=HALF, state=[5]), is_plain(form=HALF), matrices(form=HALF),
                          hangs_on(form=HALF, result=0, account=0)], [HALF, [6], False, [[[1]]], True])

    def test_lists(self):
        piece = ([[1, 2], [2, 4]], [5, 6])
        form = ([2, 2], [piece, piece, ([[0, 1], [1, 0]], [0, 0]), piece])
        before = repr(form)
        passed = [id(one) for one in lists_within(form)]
        for told in (least(form), at(form, [0, 1]), matrices(form)):
            self.assertTrue(are_apart(told))
            self.assertFalse([one for one in lists_within(told) if id(one) in passed])
            spoil(told)
        self.assertEqual(repr(form), before)

    def test_lists_that_are_changed_behind(self):
        form = ([2], [([[1]], [0]), ([[1]], [1])])
        told, unlike = least(form), matrices(form)
        spoil(form)
        self.assertEqual((told, unlike), (HALF, [[[1]]]))


class TestAsked(unittest.TestCase):
    def test_at(self):
        for chance, form, wider in made_up(62, 60, 9):
            for state in states_for(chance, len(form[0]), 5, 10 ** 9):
                self.assertEqual(at(wider, state), form_at(form, state))

    def test_plain(self):
        for _, form, wider in made_up(63, 80, 1):
            expected = all(piece == form[1][0] for piece in form[1])
            self.assertEqual((is_plain(form), is_plain(wider)), (expected, expected))
        self.assertTrue(is_plain(([3, 2], [([[1, 1]], [4])] * 6)))

    def test_matrices(self):
        for _, form, wider in made_up(64, 80, 1):
            expected = []
            for matrix, _ in form[1]:
                if matrix not in expected:
                    expected.append(matrix)
            self.assertEqual([matrices(form), matrices(wider), matrices(least(form))], [expected] * 3)
        self.assertEqual(matrices(([3], [([[2]], [0]), ([[1]], [0]), ([[2]], [5])])), [[[2]], [[1]]])

    def test_hangs_on(self):
        self.assertEqual([hangs_on(BOTH, 0, 0), hangs_on(BOTH, 0, 1)], [True, True])
        flat = ([2, 3], [([[0, 0], [1, 0]], [part // 3, part % 3]) for part in range(6)])
        self.assertEqual([[hangs_on(flat, result, account) for account in (0, 1)] for result in (0, 1)],
                         [[True, False], [True, True]])
        self.assertFalse(hangs_on(([2], [([[0]], [7])] * 2), 0, 0))

    def test_hangs_on_by_trying(self):
        for chance, form, wider in made_up(65, 60, 1):
            accounts = len(form[0])
            for result in range(len(form[1][0][0])):
                for account in range(accounts):
                    self.assertEqual(hangs_on(wider, result, account), self.tried(form, result, account))

    def tried(self, form, result, account):
        # Wherever something hangs on an account, it shows in states that tell all of the form, and what is near.
        for state in telling_states(form):
            for moved in range(form[0][account] * 2):
                other = list(state)
                other[account] += moved
                if form_at(form, state)[result] != form_at(form, other)[result]:
                    return True
        return False

    def test_alike(self):
        for chance, form, wider in made_up(66, 60, 1):
            self.assertTrue(alike(form, wider) and alike(one=wider, other=form))
            changed = least(form)
            changed[1][-1][1][-1] += 1
            self.assertFalse(alike(wider, changed) or alike(changed, form))

