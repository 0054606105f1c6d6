"""Promise 5 of maps.py: its errors."""

import random
import unittest

from accountmaps.errors import InvalidForm, InvalidNumber, InvalidState
from accountmaps.maps import alike, at, first_unlike, hangs_on, is_plain, joined, least, matrices, same_map
from tests.helping import are_apart, error_of, lists_within, some_results, spoilt_forms

TWO = some_results(random.Random(1), [2, 3], 2, 5)
THREE = some_results(random.Random(2), [1, 2, 1], 3, 5)
TO_ONE = some_results(random.Random(3), [2, 1], 1, 5)
OF_ONE = some_results(random.Random(4), [4], 2, 5)
GOOD = [TWO, THREE, TO_ONE, OF_ONE]


def wrong_forms():
    return [wrong for form in GOOD for wrong in spoilt_forms(form)]


class TestForms(unittest.TestCase):
    def test_of_one_form(self):
        for wrong in wrong_forms():
            for function in (least, is_plain, matrices):
                self.assertEqual(error_of(function, wrong), (InvalidForm, wrong))
                self.assertEqual(error_of(function, form=wrong), (InvalidForm, wrong))
            for state in ([], [1], [1, 2]):
                self.assertEqual(error_of(at, wrong, state), (InvalidForm, wrong))
            for index in (-1, 0, 9):
                self.assertEqual(error_of(hangs_on, wrong, index, index), (InvalidForm, wrong))

    def test_of_two_forms(self):
        for wrong in wrong_forms():
            for function in (joined, alike, first_unlike):
                for other in (TWO, OF_ONE, ([0], [])):
                    self.assertEqual(error_of(function, wrong, other), (InvalidForm, wrong))
                self.assertEqual(error_of(function, TWO, wrong), (InvalidForm, wrong))
                self.assertEqual(error_of(function, other=wrong, one=TWO), (InvalidForm, wrong))
                self.assertEqual(error_of(function, other=TWO, one=wrong), (InvalidForm, wrong))

    def test_forms_that_do_not_fit(self):
        for one in GOOD:
            for other in GOOD:
                fits = len(one[1][0][0]) == len(other[0])
                expected = None if fits else (InvalidForm, other)
                self.assertEqual(error_of(joined, one, other), expected)
                shapes = [(len(form[0]), len(form[1][0][0])) for form in (one, other)]
                expected = None if shapes[0] == shapes[1] else (InvalidForm, other)
                self.assertEqual([error_of(alike, one, other), error_of(first_unlike, one, other)], [expected] * 2)

    def test_what_is_right(self):
        for form in GOOD:
            for function in (least, is_plain, matrices):
                self.assertIsNone(error_of(function, form))

    def test_errors_hold_lists_of_their_own(self):
        row = [1, 0]
        form = ([1, 1], [([row, row, row], [0, 0])])
        passed = [id(one) for one in lists_within(form)]
        for call in (lambda: least(form), lambda: at(form, [0, 0]), lambda: joined(TWO, form),
                     lambda: alike(form, TWO), lambda: hangs_on(form, 0, 0), lambda: first_unlike(TWO, form)):
            kind, held = error_of(call)
            self.assertEqual((kind, held), (InvalidForm, form))
            self.assertTrue(are_apart(held))
            self.assertFalse([one for one in lists_within(held) if id(one) in passed])
        for function in (joined, alike, first_unlike):
            _, held = error_of(function, TWO, OF_ONE)
            self.assertEqual(held, OF_ONE)
            self.assertTrue(are_apart(held, OF_ONE))


class TestStatesAndNumbers(unittest.TestCase):
    def test_states(self):
        for form in GOOD:
            for state in ([], [1], [1, 2], [1, 2, 3], [0] * 4):
                expected = None if len(state) == len(form[0]) else (InvalidState, state)
                self.assertEqual(error_of(at, form, state), expected)
                self.assertEqual(error_of(at, state=state, form=form), expected)
        state = [1]
        _, held = error_of(at, TWO, state)
        self.assertIsNot(held, state)

    def test_same_map(self):
        for accounts in (0, -1, -10 ** 9):
            self.assertEqual(error_of(same_map, accounts), (InvalidNumber, accounts))
            self.assertEqual(error_of(same_map, accounts=accounts), (InvalidNumber, accounts))
        self.assertIsNone(error_of(same_map, 1))

    def test_indexes(self):
        for form in GOOD:
            accounts, results = len(form[0]), len(form[1][0][0])
            for result in (-1, 0, 1, 2, 3, 99):
                for account in (-2, 0, 1, 2, 3, 98):
                    expected = None
                    if not 0 <= account < accounts:
                        expected = (InvalidNumber, account)
                    if not 0 <= result < results:
                        expected = (InvalidNumber, result)
                    self.assertEqual(error_of(hangs_on, form, result, account), expected)
                    self.assertEqual(error_of(hangs_on, account=account, result=result, form=form), expected)
