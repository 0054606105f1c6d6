"""The errors of rounds.py."""

import random
import unittest

from accountmaps.errors import InvalidForm, InvalidModulus, InvalidNumber, InvalidRests, InvalidState
from accountmaps.rounds import after, both, comes_round, comes_round_at, drift, many_before, neither, next_from
from accountmaps.rounds import power, times_when
from tests.helping import are_apart, error_of, lists_within, some_form, some_results, spoilt_forms

TWO = some_form(random.Random(181), [2, 1], 3)
GOOD = ([0], 1, 3, [0])
BAD = [([], -1, 1, []), ([], 0, 0, []), ([1, 0], 2, 3, [0]), ([], 0, 2, [0, 0]), ([], 1, 1, []), ([], 0, 6, [0, 3]),
       ([], 0, 2, []), ([0], 0, 1, [0])]


class TestForms(unittest.TestCase):
    def test_wrong_forms(self):
        wrongs = list(spoilt_forms(TWO))
        wrongs += [some_results(random.Random(seed), [2, 2], results, 3) for seed, results in ((1, 1), (2, 3))]
        for wrong in wrongs:
            calls = [lambda: power(wrong, -1), lambda: after(wrong, [], -1, 0), lambda: comes_round(wrong),
                     lambda: comes_round_at(wrong, []), lambda: drift(wrong, []),
                     lambda: times_when(wrong, [], [], 0, -1), lambda: power(times=2, form=wrong),
                     lambda: comes_round(form=wrong), lambda: drift(form=wrong, state=[1, 2])]
            for call in calls:
                self.assertEqual(error_of(call), (InvalidForm, wrong))

    def test_lists_of_their_own(self):
        row = [1, 0]
        wrong = ([1, 1], [([row, row, row], [0, 0])])
        passed = [id(one) for one in lists_within(wrong)]
        for call in (lambda: power(wrong, 1), lambda: comes_round(wrong), lambda: drift(wrong, [1, 2])):
            _, held = error_of(call)
            self.assertEqual((held, are_apart(held)), (wrong, True))
            self.assertFalse([one for one in lists_within(held) if id(one) in passed])


class TestOrder(unittest.TestCase):
    def test_power(self):
        for times in (-1, -10 ** 30):
            self.assertEqual(error_of(power, TWO, times), (InvalidNumber, times))
        self.assertIsNone(error_of(power, TWO, 0))

    def test_states(self):
        for state in ([], [1], [1, 2, 3]):
            for call in (lambda: after(TWO, state, -1, 0), lambda: comes_round_at(TWO, state),
                         lambda: drift(TWO, state), lambda: times_when(TWO, state, [], 0, -1),
                         lambda: times_when(TWO, [1, 2], state, 0, -1), lambda: drift(state=state, form=TWO)):
                self.assertEqual(error_of(call), (InvalidState, state))
            _, held = error_of(drift, TWO, state)
            self.assertIsNot(held, state)

    def test_after(self):
        self.assertEqual(error_of(after, TWO, [1, 2], -5, 0), (InvalidNumber, -5))
        for modulus in (0, -7):
            self.assertEqual(error_of(after, TWO, [1, 2], 0, modulus), (InvalidModulus, modulus))
            self.assertEqual(error_of(after, modulus=modulus, times=5, state=[1, 2], form=TWO),
                             (InvalidModulus, modulus))
        self.assertIsNone(error_of(after, TWO, [1, 2], 0, 1))

    def test_times_when(self):
        for modulus in (0, -7):
            self.assertEqual(error_of(times_when, TWO, [1, 2], [1, 2], modulus, -9), (InvalidModulus, modulus))
        for rest in (-1, 3, 4, 10 ** 30):
            self.assertEqual(error_of(times_when, TWO, [1, 2], [1, 2], 3, rest), (InvalidNumber, rest))
            self.assertEqual(error_of(times_when, rest=rest, modulus=3, weights=[1, 2], state=[1, 2], form=TWO),
                             (InvalidNumber, rest))
        self.assertEqual(error_of(times_when, TWO, [1, 2], [1, 2], 1, 1), (InvalidNumber, 1))
        self.assertIsNone(error_of(times_when, TWO, [1, 2], [1, 2], 3, 2))


class TestCalendars(unittest.TestCase):
    def test_of_two(self):
        for bad in BAD:
            for call in (both, neither):
                self.assertEqual(error_of(call, bad, GOOD), (InvalidRests, bad))
                self.assertEqual(error_of(call, GOOD, bad), (InvalidRests, bad))
                self.assertEqual(error_of(call, other=([], 0, 0, []), one=bad), (InvalidRests, bad))

    def test_with_numbers(self):
        for call in (many_before, next_from):
            for bad in BAD:
                for number in (-1, 0, 5):
                    self.assertEqual(error_of(call, bad, number), (InvalidRests, bad))
            for number in (-1, -10 ** 30):
                self.assertEqual(error_of(call, GOOD, number), (InvalidNumber, number))
                self.assertEqual(error_of(call, number=number, told=GOOD), (InvalidNumber, number))
            self.assertIsNone(error_of(call, GOOD, 0))

    def test_lists_of_their_own(self):
        shared = [0, 0]
        told = (shared, 1, 2, shared)
        for call in (lambda: both(told, GOOD), lambda: neither(GOOD, told), lambda: many_before(told, 1),
                     lambda: next_from(told, -1)):
            kind, held = error_of(call)
            self.assertEqual((kind, held), (InvalidRests, told))
            self.assertTrue(are_apart(held) and held[0] is not shared and held[3] is not shared)
