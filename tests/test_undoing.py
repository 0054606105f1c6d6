"""Promises 14 to 18 of undoing.py: one to one and onto, maps and logs that are taken back, and the errors."""

import itertools
import math
import random
import unittest

from accountmaps.errors import InvalidForm, InvalidNumber
from accountmaps.maps import alike, joined, least, matrices, same_map
from accountmaps.reports import fitting, judge_rule, told
from accountmaps.undoing import amended, back, can_take_out, fallen_together, idle_maps, is_one_to_one, is_onto
from accountmaps.undoing import never_made, taken_out, whole
from tests.helping import are_apart, error_of, form_at, is_least, refused, some_calm_map, some_form
from tests.helping import some_results, spoil, spoilt_forms, states_for, states_in_order, told_wider

FIVE, DOUBLE, TURNED, NOUGHT = [([1], [([[often]], [more])]) for often, more in ((1, 5), (2, 0), (-1, 0), (0, 0))]
LOTS = [[1], [2], [3], [6], [1, 1], [2, 1], [2, 2], [1, 1, 1], [2, 1, 1], [1] * 4]


def step(chance, many):
    """A plain map that can be taken back: two accounts exchanged, one turned, added to another one, or moved on."""
    _, [(matrix, amounts)] = same_map(many)
    one, other = chance.randrange(many), chance.randrange(many)
    kind = chance.randrange(4)
    if kind == 0:
        matrix[one], matrix[other] = matrix[other], matrix[one]
    elif kind == 1:
        matrix[one][one] = -1
    elif kind == 2 and one != other:
        matrix[one][other] = chance.choice([-2, -1, 1, 2])
    else:
        amounts[one] = chance.randint(-3, 3)
    return [1] * many, [(matrix, amounts)]


def turn(chance, moduli):
    """A map that can be taken back: what is added to each account hangs on rests of those behind it."""
    many = len(moduli)
    pieces = []
    added = {}
    for rests in itertools.product(*[range(modulus) for modulus in moduli]):
        amounts = [added.setdefault((place, rests[place + 1:]), chance.randint(0, 2)) for place in range(many)]
        pieces.append((same_map(many)[1][0][0], amounts))
    return list(moduli), pieces


def exchange(chance, modulus):
    """A map of one account that exchanges rests, with steps of whole moduli."""
    order = list(range(modulus))
    chance.shuffle(order)
    return [modulus], [([[1]], [to - rest + modulus * chance.randint(-2, 2)]) for rest, to in enumerate(order)]


def one_to_one_map(chance, moduli):
    form = same_map(len(moduli))
    for _ in range(chance.randint(0, 3)):
        form = joined(form, chance.choice([step(chance, len(moduli)), turn(chance, moduli)]))
    return joined(form, exchange(chance, moduli[0])) if len(moduli) == 1 else form


def some_map(chance, moduli):
    kind = chance.randrange(4)
    if kind < 2:
        return one_to_one_map(chance, moduli)
    return some_calm_map(chance, moduli) if kind == 2 else some_form(chance, moduli, 2)


def done(log, accounts):
    form = same_map(accounts)
    for one in log:
        form = joined(form, one)
    return form


def common(*forms):
    return math.lcm(*[modulus for form in forms for modulus in form[0]]) ** len(forms[0][0])


class TestOneToOne(unittest.TestCase):
    def check(self, form):
        many, found = len(form[0]), fallen_together(form)
        self.assertEqual(is_one_to_one(form), found is None)
        if found is None:
            made = {}
            for state in states_in_order(many, [0, 40, 7, 3, 2][many]):
                made.setdefault(tuple(form_at(form, state)), []).append(state)
            self.assertEqual({len(lot) for lot in made.values()}, {1})
        else:
            one, other = found
            self.assertTrue(isinstance(found, tuple) and one != other and are_apart(found))
            self.assertEqual(form_at(form, one), form_at(form, other))
        return found is None

    def test_made_up(self):
        chance = random.Random(1101)
        kinds = {True: 0, False: 0}
        for moduli in LOTS * 10:
            kinds[self.check(some_map(chance, moduli))] += 1
            self.assertTrue(self.check(one_to_one_map(chance, moduli)))
        self.assertGreater(min(kinds.values()), 20)

    def test_edges(self):
        self.assertTrue(self.check(DOUBLE))
        self.assertFalse(self.check(NOUGHT))
        self.assertFalse(self.check(([2], [([[1]], [0]), ([[1]], [1])])))
        self.assertTrue(self.check(([2], [([[2]], [0]), ([[2]], [1])])))
        # Far apart: the ends of two pieces meet where none of both is near nought.
        self.assertFalse(self.check(([2], [([[3]], [0]), ([[5]], [10 ** 6 + 1])])))
        self.assertTrue(self.check(([2], [([[3]], [0]), ([[6]], [10 ** 6 + 1])])))
        self.assertFalse(self.check(([1, 1], [([[1, 2], [2, 4]], [0, 0])])))
        self.assertTrue(self.check(([60], [([[1]], [7])] * 60)))
        self.assertFalse(self.check(([60], [([[1]], [7])] * 59 + [([[1]], [8])])))
        self.assertTrue(is_one_to_one(form=FIVE) and fallen_together(form=FIVE) is None)
        spoil(fallen_together(NOUGHT))
        self.assertFalse(is_one_to_one(NOUGHT))


class TestOnto(unittest.TestCase):
    def made_of(self, form, state):
        """Whether a state is made of one that `fitting` tells."""
        one = fitting([form], [state])
        if one is not None:
            self.assertEqual(form_at(form, one), state)
        return one is not None

    def check(self, form):
        state = never_made(form)
        self.assertEqual(is_onto(form), state is None)
        many = len(form[0])
        if state is None:
            self.assertTrue(is_one_to_one(form))
            self.assertTrue(all(self.made_of(form, one) for one in states_in_order(many, [0, 9, 3, 1, 1][many])))
            return True
        for one in states_in_order(many, max(abs(amount) for amount in state)):
            if one == state:
                break
            self.assertTrue(self.made_of(form, one))
        self.assertFalse(self.made_of(form, state))
        near = states_in_order(many, [0, 60, 9, 4, 2][many])
        self.assertNotIn(state, [form_at(form, one) for one in near])
        return False

    def test_made_up(self):
        chance = random.Random(1111)
        kinds = {True: 0, False: 0}
        for moduli in [[1], [2], [3], [6], [60], [1, 1], [2, 1], [2, 2], [4, 2], [1, 1, 1], [2, 1, 1], [1] * 4] * 8:
            form = some_map(chance, moduli)
            if chance.random() < 0.3:
                matrix, amounts = form[1][-1]
                amounts[0] += chance.choice([1, math.lcm(*form[0]), 7])
            kinds[self.check(form)] += 1
        self.assertGreater(min(kinds.values()), 20)

    def test_edges(self):
        self.assertEqual([never_made(DOUBLE), never_made(NOUGHT), never_made(FIVE), never_made(form=TURNED)],
                         [[-1], [-1], None, None])
        self.assertEqual(never_made(([1], [([[2]], [1])])), [0])
        self.assertEqual(never_made(([1], [([[0]], [-1])])), [0])
        self.assertEqual(never_made(([1, 1], [([[1, 0], [1, 0]], [0, 0])])), [-1, 0])
        self.assertEqual(never_made(([1] * 4, [([[1, 0, 0, 0], [0, 1, 0, 0], [0, 0, 1, 0], [0, 0, 0, 2]], [0] * 4)])), [-1] * 4)
        # Each piece makes all of a third: together all is made, or one third twice.
        thirds = ([3], [([[1]], [0])] * 3)
        self.assertTrue(is_onto(form=thirds))
        self.assertEqual(never_made(([3], [([[1]], [0]), ([[1]], [0]), ([[1]], [1])])), [-1])
        self.assertEqual(never_made(([3], [([[1]], [0]), ([[1]], [1]), ([[1]], [0])])), [1])
        # What is near is made of single states, one for each rest: the first that is not lies far away.
        near = [0, -1, 1, -2, 2, -3, 3, -4, 4, -5, 5, -6, 6, -7, 7]
        self.assertEqual(never_made(([15], [([[0]], [amount]) for amount in near])), [-8])
        half = ([4], [([[2]], [0])] + [([[0]], [amount]) for amount in (1, -1, 3)])
        self.assertEqual(never_made(half), [-2])
        # The matrices of a map that makes all have the determinant 1 or -1.
        chance = random.Random(1112)
        for _ in range(40):
            form = some_map(chance, [2, 1])
            if is_onto(form):
                for (a, b), (c, d) in matrices(form):
                    self.assertEqual(abs(a * d - b * c), 1)

    def test_first_of_all_states(self):
        for rest in range(1, 60):
            pieces = [([[1]], [0 if one != rest else 60 - rest if rest < 30 else -rest]) for one in range(60)]
            self.assertEqual(never_made(([60], pieces)), [rest if rest < 30 else rest - 60])


class TestBack(unittest.TestCase):
    def test_made_up(self):
        chance = random.Random(1121)
        kinds = {True: 0, False: 0}
        for moduli in LOTS * 8 + [[2, 3], [5], [12], [600], [24, 1], [8, 2, 1]]:
            form = some_map(chance, moduli) if moduli[0] < 12 else one_to_one_map(chance, moduli)
            if common(form) > 600:
                continue
            made = back(form)
            if math.prod(form[0]) <= 60:
                self.assertEqual(made is not None, is_onto(form))
            kinds[made is not None] += 1
            if made is not None:
                self.assertTrue(is_least(made) and are_apart(made))
                self.assertEqual(back(made), least(form))
                self.assertEqual(joined(form, made), same_map(len(moduli)))
                self.assertEqual(joined(made, form), same_map(len(moduli)))
                for state in states_for(chance, len(moduli), 3, 10 ** 6):
                    self.assertEqual(form_at(made, form_at(form, state)), state)
        self.assertGreater(min(kinds.values()), 20)

    def test_edges(self):
        self.assertEqual([back(DOUBLE), back(NOUGHT), back(FIVE), back(form=TURNED)], [None, None, ([1], [([[1]], [-5])]), TURNED])
        self.assertEqual(back(told_wider(FIVE, [7])), ([1], [([[1]], [-5])]))
        self.assertIsNone(back(([2], [([[1]], [0]), ([[1]], [1])])))
        self.assertIsNone(back(([2], [([[2]], [0]), ([[2]], [-1])])))
        odd = ([2, 1], [([[1, 0], [0, 1]], [0, 0]), ([[1, 0], [0, -1]], [0, 3])])
        self.assertEqual(back(odd), odd)
        self.assertEqual(back(([1] * 4, [([[1, 2, 3, 4], [0, 1, 2, 3], [0, 0, 1, 2], [0, 0, 0, 1]], [1, 1, 1, 1])])),
                         ([1] * 4, [([[1, -2, 1, 0], [0, 1, -2, 1], [0, 0, 1, -2], [0, 0, 0, 1]], [0, 0, 1, -1])]))
        spoil(back(FIVE))
        self.assertEqual((FIVE, back(FIVE)), (([1], [([[1]], [5])]), ([1], [([[1]], [-5])])))


class TestLogs(unittest.TestCase):
    def some_log(self, chance, moduli, most):
        return [some_map(chance, moduli) for _ in range(chance.randint(1, most))]

    def test_whole_and_idle_maps(self):
        chance = random.Random(1131)
        found = set()
        for moduli in LOTS * 6:
            log = self.some_log(chance, moduli, 6)
            if chance.random() < 0.5:
                log = log[:4] + [some_calm_map(chance, [1] * len(moduli)), same_map(len(moduli))]
            if common(*log) > 60:
                continue
            form = done(log, len(moduli))
            self.assertEqual(whole(log), form)
            right = [index for index in range(len(log)) if done(log[:index] + log[index + 1:], len(moduli)) == form]
            self.assertEqual(idle_maps(log), right)
            found.add(len(right))
        self.assertGreater(len(found), 2)
        self.assertEqual(whole(log=[told_wider(FIVE, [4])]), FIVE)
        self.assertEqual(idle_maps([FIVE]), [])
        self.assertEqual(idle_maps([same_map(2)]), [0])
        self.assertEqual(idle_maps(log=[FIVE, NOUGHT]), [0])
        self.assertEqual(idle_maps([FIVE, FIVE, NOUGHT, same_map(1), NOUGHT, TURNED]), [0, 1, 2, 3, 4, 5])
        self.assertEqual(whole([FIVE] * 6), ([1], [([[1]], [30])]))
        spoil(whole([FIVE]))
        self.assertEqual(whole([FIVE]), ([1], [([[1]], [5])]))

    def test_taken_out(self):
        chance = random.Random(1132)
        kinds = {True: 0, False: 0}
        for moduli in LOTS * 8:
            log = self.some_log(chance, moduli, 4)
            index, accounts = chance.randrange(len(log)), len(moduli)
            if common(*log) > 60:
                continue
            form, without = done(log, accounts), done(log[:index] + log[index + 1:], accounts)
            can, made = can_take_out(log, index), taken_out(log, index)
            self.assertEqual(can, told([form], without))
            self.assertEqual(made is not None, all(back(one) is not None for one in log[index:]))
            kinds[made is not None] += 1
            if made is not None:
                self.assertTrue(can and is_least(made) and are_apart(made))
                self.assertEqual(joined(form, made), without)
                self.assertTrue(judge_rule([form], without, made))
            other = some_map(chance, moduli)
            if common(*log, other) <= 60:
                put_in = amended(log, index, other)
                self.assertEqual(put_in is None, made is None)
                if put_in is not None:
                    self.assertTrue(is_least(put_in))
                    self.assertEqual(joined(form, put_in), done(log[:index] + [other] + log[index + 1:], accounts))
                    self.assertEqual(amended(log, index, log[index]), same_map(accounts))
                    self.assertEqual(amended(log, index, same_map(accounts)), made)
        self.assertGreater(min(kinds.values()), 20)

    def test_edges_of_taken_out(self):
        self.assertTrue(can_take_out([FIVE, DOUBLE], 0))
        self.assertIsNone(taken_out([FIVE, DOUBLE], 0))
        self.assertEqual(taken_out([FIVE, TURNED], 0), FIVE)
        self.assertEqual(taken_out([DOUBLE, TURNED], 1), TURNED)
        self.assertEqual(taken_out([NOUGHT, FIVE], 1), ([1], [([[1]], [-5])]))
        self.assertEqual(amended(form=DOUBLE, index=0, log=[FIVE, TURNED]), ([1], [([[2]], [10])]))
        self.assertIsNone(amended([FIVE, DOUBLE], 0, FIVE))
        self.assertEqual(amended([DOUBLE, FIVE], 1, NOUGHT), NOUGHT)
        # A log of one map: without it, it leaves all as it is.
        self.assertEqual([can_take_out([DOUBLE], 0), taken_out([DOUBLE], 0), taken_out([FIVE], 0)],
                         [True, None, ([1], [([[1]], [-5])])])
        self.assertFalse(can_take_out([NOUGHT], 0))
        self.assertFalse(can_take_out([NOUGHT, FIVE], 0))
        self.assertTrue(can_take_out(index=0, log=[FIVE, NOUGHT]))
        self.assertEqual(taken_out(index=5, log=[FIVE] * 6), ([1], [([[1]], [-5])]))
        self.assertFalse(can_take_out([([2], [([[1]], [0]), ([[1]], [1])])], 0))


class TestErrors(unittest.TestCase):
    def test_forms(self):
        two = some_form(random.Random(1141), [2, 1], 3)
        for wrong in list(spoilt_forms(two)) + [some_results(random.Random(1142), [1, 1], 1, 2), FIVE]:
            logs = [[two, wrong], [two, two, wrong, ()]] + ([] if wrong == FIVE else [[wrong, ()]])
            for log in logs:
                refused(self, wrong, InvalidForm, lambda: whole(log), lambda: can_take_out(log, 9),
                        lambda: taken_out(log, -1), lambda: amended(log, 9, ()), lambda: idle_maps(log),
                        lambda: amended(form=(), index=7, log=log))
            refused(self, wrong, InvalidForm, lambda: amended([two], 9, wrong))
            if wrong != FIVE:
                refused(self, wrong, InvalidForm, lambda: is_one_to_one(wrong), lambda: fallen_together(wrong),
                        lambda: is_onto(wrong), lambda: never_made(wrong), lambda: back(form=wrong),
                        lambda: amended([], 0, wrong))

    def test_empty_logs_and_indexes(self):
        refused(self, 0, InvalidNumber, lambda: whole([]), lambda: can_take_out([], 5), lambda: taken_out([], -1),
                lambda: amended([], 7, FIVE), lambda: idle_maps([]), lambda: taken_out(index=3, log=[]))
        for wrong in (-1, 2, 10 ** 30):
            refused(self, wrong, InvalidNumber, lambda: can_take_out([FIVE, NOUGHT], wrong),
                    lambda: taken_out([FIVE, FIVE], wrong), lambda: amended([FIVE, FIVE], wrong, FIVE),
                    lambda: taken_out(index=wrong, log=[FIVE, FIVE]))
        self.assertIsNone(error_of(taken_out, [FIVE, FIVE], 1))

    def test_what_is_passed_stays(self):
        log = [([2], [([[1]], [1]), ([[1]], [-1])]), FIVE]
        before = repr(log)
        for made in (whole(log), taken_out(log, 0), amended(log, 0, DOUBLE), back(log[0]), idle_maps(log)):
            spoil(made)
        self.assertEqual(repr(log), before)
        self.assertTrue(alike(whole(log[:1]), log[0]))
