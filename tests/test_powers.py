"""Promises 15 and 16: powers of maps, and what is there behind great numbers of times."""

import random
import unittest

from accountmaps.maps import joined, same_map
from accountmaps.rounds import after, power
from tests.helping import are_apart, form_at, has_shape, is_least, lists_within, some_calm_map, some_form, spoil
from tests.helping import told_wider

SELL = ([1, 1], [([[1, 0], [0, 1]], [5, -1])])
DAY = ([3], [([[0]], [1]), ([[0]], [2]), ([[0]], [0])])
LOTS = [[1], [2], [7], [12], [60], [2, 1], [2, 4], [3, 6], [1, 5], [2, 1, 2], [3, 1, 3], [2, 2, 1, 1], [1] * 4]


def some_map(chance, moduli):
    return some_calm_map(chance, moduli) if chance.random() < 0.6 else some_form(chance, moduli, chance.choice([1, 100]))


def times_done(form, state, times):
    for _ in range(times):
        state = form_at(form, state)
    return state


class TestPower(unittest.TestCase):
    def test_made_up(self):
        chance = random.Random(151)
        for moduli in LOTS * 4:
            form = some_map(chance, moduli)
            done = same_map(len(moduli))
            for times in range(5):
                told = power(told_wider(form, [chance.choice([1, 1, 2]) for _ in moduli]), times)
                self.assertEqual(told, done)
                self.assertTrue(has_shape(told, len(moduli), len(moduli)) and is_least(told) and are_apart(told))
                done = joined(done, form)

    def test_forty_times(self):
        chance = random.Random(152)
        for moduli in LOTS * 2:
            form, times = some_map(chance, moduli), chance.randint(5, 40)
            told = power(form, times)
            self.assertTrue(is_least(told))
            for _ in range(6):
                state = [chance.randint(-10 ** 9, 10 ** 9) for _ in moduli]
                self.assertEqual(form_at(told, state), times_done(form, state, times))
            ahead = chance.randint(0, times)
            self.assertEqual(joined(power(form, ahead), power(form, times - ahead)), told)

    def test_many_pieces(self):
        chance = random.Random(153)
        for moduli in ([600], [24, 24], [8, 8, 8], [4, 4, 4, 4], [4, 1, 2, 4]):
            form = some_map(chance, moduli)
            told = power(form, 37)
            for _ in range(4):
                state = [chance.randint(-10 ** 9, 10 ** 9) for _ in moduli]
                self.assertEqual(form_at(told, state), times_done(form, state, 37))

    def test_plain(self):
        self.assertEqual(power(SELL, 3), ([1, 1], [([[1, 0], [0, 1]], [15, -3])]))
        self.assertEqual(power(times=0, form=DAY), ([1], [([[1]], [0])]))
        self.assertEqual([power(DAY, 1), power(DAY, 3), power(DAY, 4)],
                         [DAY, ([3], [([[0]], [rest]) for rest in range(3)]), DAY])
        self.assertEqual(power(([1], [([[-100]], [0])]), 40), ([1], [([[100 ** 40]], [0])]))
        self.assertEqual(power(([2], [([[1]], [1]), ([[1]], [3])]), 2), ([1], [([[1]], [4])]))

    def test_great_times_of_a_shift(self):
        self.assertEqual(power(SELL, 10 ** 20), ([1, 1], [([[1, 0], [0, 1]], [5 * 10 ** 20, -10 ** 20])]))

    def test_lists(self):
        form = told_wider(SELL, [2, 3])
        passed = [id(one) for one in lists_within(form)]
        for times in (0, 1, 2):
            told = power(form, times)
            self.assertFalse([one for one in lists_within(told) if id(one) in passed])
            spoil(told)
        self.assertEqual(form, told_wider(SELL, [2, 3]))
        told = power(form, 1)
        spoil(form)
        self.assertEqual(told, SELL)


class TestAfter(unittest.TestCase):
    def test_few_times(self):
        chance = random.Random(154)
        for moduli in LOTS * 6:
            form, times = some_map(chance, moduli), chance.choice([0, 1, 2, 3, 10, 30])
            state = [chance.choice([chance.randint(-9, 9), chance.randint(-10 ** 9, 10 ** 9)]) for _ in moduli]
            modulus = chance.choice([1, 2, 7, 10 ** 9, chance.randint(1, 10 ** 9)])
            told = after(told_wider(form, [chance.choice([1, 2]) for _ in moduli]), state, times, modulus)
            self.assertEqual(told, [amount % modulus for amount in times_done(form, state, times)])

    def test_great_times(self):
        """With small moduli the rests come round, so that they are found step by step."""
        chance = random.Random(155)
        for moduli in LOTS * 4:
            form, modulus = some_map(chance, moduli), chance.randint(1, 12)
            whole = modulus * max(moduli) * min(moduli) * sorted(moduli)[len(moduli) // 2]
            state = [chance.randint(-10 ** 9, 10 ** 9) for _ in moduli]
            places, lot, rests = {}, [], tuple(amount % whole for amount in state)
            while rests not in places and len(lot) < 4000:
                places[rests] = len(lot)
                lot.append(rests)
                rests = tuple(amount % whole for amount in form_at(form, rests))
            if rests in places:
                first = places[rests]
                for times in (len(lot), 10 ** 6 + 7, chance.randint(0, 10 ** 30), 10 ** 30):
                    at = times if times < first else first + (times - first) % (len(lot) - first)
                    self.assertEqual(after(form, state, times, modulus), [amount % modulus for amount in lot[at]])

    def test_doubled(self):
        chance = random.Random(156)
        for moduli in LOTS * 2:
            form = some_map(chance, moduli)
            state = [chance.randint(-99, 99) for _ in moduli]
            whole = 720720 * 7
            times, more = chance.randint(0, 10 ** 29), chance.randint(0, 10 ** 29)
            then = after(form, state, times, whole)
            self.assertEqual(after(form, then, more, whole), after(form, state, times + more, whole))

    def test_plain(self):
        self.assertEqual(after(SELL, [0, 10], 10 ** 30, 7), [5 * 10 ** 30 % 7, (10 - 10 ** 30) % 7])
        self.assertEqual(after(modulus=10 ** 9, times=10 ** 30 + 1, state=[3], form=([1], [([[1]], [7])])), [10])
        self.assertEqual(after(([1], [([[3]], [1])]), [5], 10 ** 30, 10 ** 9 - 1),
                         [((pow(3, 10 ** 30, 2 * 10 ** 9 - 2) - 1) // 2 + 5 * pow(3, 10 ** 30, 10 ** 9 - 1))
                          % (10 ** 9 - 1)])
        self.assertEqual([after(DAY, [9], times, 10) for times in range(5)], [[9], [1], [2], [0], [1]])
        self.assertEqual(after(SELL, [4, 4], 0, 1), [0, 0])

    def test_long_rounds(self):
        turn = ([600], [([[1]], [1])] * 599 + [([[1]], [-599])])
        self.assertEqual(after(turn, [-1], 10 ** 30, 1000), [(10 ** 30 - 1) % 600 - 600 + 1000])
        four = some_form(random.Random(157), [4, 4, 4, 4], 100)
        self.assertEqual(after(four, [1, 2, 3, 4], 300, 10 ** 9),
                         [amount % 10 ** 9 for amount in times_done(four, [1, 2, 3, 4], 300)])

    def test_lists(self):
        form, state = told_wider(SELL, [2, 2]), [1, 2]
        spoil(after(form, state, 5, 9))
        self.assertEqual((form, state), (told_wider(SELL, [2, 2]), [1, 2]))
