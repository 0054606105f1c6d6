"""Promise 12: the errors of kept.py and reaching.py."""

import random
import unittest

from accountmaps.errors import InvalidForm, InvalidModulus, InvalidNumber, InvalidState
from accountmaps.kept import changing, is_kept, kept, kept_rests
from accountmaps.reaching import against, judge_against, rests_reached, road, shift, steps_of, way
from tests.helping import are_apart, error_of, lists_within, some_form, some_results, spoilt_forms, told_wider

TWO, OTHER = some_form(random.Random(131), [2, 1], 3), some_form(random.Random(132), [1, 3], 3)
ONE, THREE = some_form(random.Random(133), [4], 3), some_form(random.Random(134), [1, 1, 2], 3)
NO_MAP = some_results(random.Random(135), [2, 2], 1, 3)
WRONG = list(spoilt_forms(TWO)) + [ONE, THREE, NO_MAP]


class TestKept(unittest.TestCase):
    def test_no_form(self):
        for call in (lambda: kept([]), lambda: kept_rests([], 0), lambda: is_kept([], []), lambda: changing([], [1]),
                     lambda: kept_rests(forms=[], modulus=2), lambda: changing(weights=[], forms=[])):
            self.assertEqual(error_of(call), (InvalidNumber, 0))

    def test_wrong_forms(self):
        for wrong in WRONG:
            for forms in ([TWO, wrong], [TWO, OTHER, wrong, ([], [])], [TWO, wrong, NO_MAP]):
                expected = (InvalidForm, wrong)
                self.assertEqual(error_of(kept, forms), expected)
                self.assertEqual(error_of(kept_rests, forms, 0), expected)
                self.assertEqual(error_of(is_kept, forms, [1]), expected)
                self.assertEqual(error_of(changing, weights=[1], forms=forms), expected)
        for wrong in list(spoilt_forms(TWO)) + [NO_MAP]:
            self.assertEqual(error_of(kept, [wrong, TWO]), (InvalidForm, wrong))
            self.assertEqual(error_of(kept_rests, [wrong], -1), (InvalidForm, wrong))

    def test_modulus(self):
        for modulus in (0, -1, -600):
            self.assertEqual(error_of(kept_rests, [TWO, OTHER], modulus), (InvalidModulus, modulus))
            self.assertEqual(error_of(kept_rests, modulus=modulus, forms=[TWO]), (InvalidModulus, modulus))
        self.assertIsNone(error_of(kept_rests, [TWO], 1))

    def test_weights(self):
        for weights in ([], [1], [1, 2, 3]):
            for function in (is_kept, changing):
                self.assertEqual(error_of(function, [TWO, OTHER], weights), (InvalidState, weights))
                _, held = error_of(function, weights=weights, forms=[TWO])
                self.assertIsNot(held, weights)

    def test_what_is_right(self):
        for call in (lambda: kept([TWO, OTHER]), lambda: is_kept([TWO], [1, 2]), lambda: changing([OTHER], [0, 0])):
            self.assertIsNone(error_of(call))


class TestShifts(unittest.TestCase):
    def test_shift(self):
        for wrong in list(spoilt_forms(TWO)) + [NO_MAP, some_results(random.Random(136), [1], 2, 3)]:
            self.assertEqual(error_of(shift, wrong), (InvalidForm, wrong))
            self.assertEqual(error_of(shift, form=wrong), (InvalidForm, wrong))
        for form in (TWO, ONE, THREE):
            self.assertIsNone(error_of(shift, form))

    def test_no_shift(self):
        for goal in ([], [1], [1, 2]):
            for function in (way, against):
                self.assertEqual(error_of(function, [], goal), (InvalidNumber, 0))
            self.assertEqual(error_of(judge_against, [], goal, ([1], 2)), (InvalidNumber, 0))
        self.assertEqual(error_of(steps_of, []), (InvalidNumber, 0))

    def test_lengths(self):
        good, short, long = [1, 2], [1], [1, 2, 3]
        for shifts, goal, expected in (([good, short, long], long, short), ([good, good, long], short, long),
                                       ([good, good], short, short), ([good], [], []), ([short, good], short, good),
                                       ([good], long, long), ([long, long], good, good)):
            for function in (way, against):
                self.assertEqual(error_of(function, shifts, goal), (InvalidState, expected))
                self.assertEqual(error_of(function, goal=goal, shifts=shifts), (InvalidState, expected))
            for told in (([1], 0), ([1, 2], 2)):
                self.assertEqual(error_of(judge_against, shifts, goal, told), (InvalidState, expected))
        self.assertEqual(error_of(steps_of, [good, good, short, long]), (InvalidState, short))
        _, held = error_of(way, [good], short)
        self.assertIsNot(held, short)
        for call in (lambda: way([good], good), lambda: steps_of([short]), lambda: against([good], [0, 0]),
                     lambda: judge_against([good], good, ([], 0))):
            self.assertIsNone(error_of(call))


class TestRests(unittest.TestCase):
    def both(self, forms, state, goal, modulus):
        return [error_of(rests_reached, forms, state, modulus), error_of(road, forms, state, goal, modulus),
                error_of(road, modulus=modulus, goal=goal, state=state, forms=forms)]

    def test_wrong_forms(self):
        for wrong in WRONG:
            told = self.both([TWO, OTHER, wrong, ([], [])], [1], [1], 0)
            self.assertEqual(told, [(InvalidForm, wrong)] * 3)

    def test_states_ahead_of_moduli(self):
        for state in ([], [1], [1, 2, 3]):
            self.assertEqual(self.both([TWO, OTHER], state, [1], 0), [(InvalidState, state)] * 3)
            self.assertEqual(error_of(road, [TWO], [1, 2], state, -1), (InvalidState, state))

    def test_moduli(self):
        for modulus in (0, -6, -1, 1, 2, 3, 4, 5, 7, 8, 9, 11):
            self.assertEqual(self.both([TWO, OTHER], [1, 2], [3, 4], modulus), [(InvalidModulus, modulus)] * 3)
        for modulus in (6, 12, 24):
            self.assertEqual(self.both([TWO, OTHER], [1, 2], [3, 4], modulus), [None] * 3)

    def test_moduli_in_the_least_way(self):
        wide = told_wider(TWO, [3, 5])
        self.assertEqual(self.both([wide], [1, 2], [3, 4], 2), [None] * 3)
        self.assertEqual(self.both([wide], [1, 2], [3, 4], 15), [(InvalidModulus, 15)] * 3)

    def test_no_form(self):
        for modulus in (0, -3):
            self.assertEqual(self.both([], [], [5], modulus), [(InvalidModulus, modulus)] * 3)
        for modulus in (1, 5):
            self.assertEqual(self.both([], [1, 2], [5], modulus), [(InvalidNumber, 0)] * 3)

    def test_lists_of_their_own(self):
        row = [1, 0]
        wrong = ([1, 1], [([row, row, row], [0, 0])])
        passed = [id(one) for one in lists_within(wrong)]
        for call in (lambda: kept([TWO, wrong]), lambda: changing([wrong], [1]), lambda: shift(wrong),
                     lambda: road([TWO, wrong], [1], [], 0), lambda: kept_rests([wrong], 0)):
            kind, held = error_of(call)
            self.assertEqual((kind, held), (InvalidForm, wrong))
            self.assertTrue(are_apart(held))
            self.assertFalse([one for one in lists_within(held) if id(one) in passed])
        state = [1]
        _, held = error_of(rests_reached, [TWO], state, 2)
        self.assertIsNot(held, state)
