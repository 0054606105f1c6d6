"""Promises 9 and 10: shifts, their sums, ways to a goal and what bars them."""

import random
import unittest

from accountmaps.maps import same_map
from accountmaps.reaching import against, judge_against, shift, steps_of, way
from tests.helping import all_rests, are_apart, is_in_steps, is_sum_of, some_form, spoil, told_wider, weighted_sum


def shift_map(amounts):
    many = len(amounts)
    return [1] * many, [([[1 if row == column else 0 for column in range(many)] for row in range(many)], list(amounts))]


def summed(shifts, often):
    return [sum(times * row[place] for times, row in zip(often, shifts)) for place in range(len(shifts[0]))]


def some_shifts(chance, most=100):
    accounts = chance.randint(1, 4)
    shifts = [[chance.randint(-most, most) for _ in range(accounts)] for _ in range(chance.randint(1, 6))]
    for row in range(1, len(shifts)):
        if chance.random() < 0.4:
            # A shift that says little more than one before.
            factor = chance.choice([0, 1, -1, 2])
            shifts[row] = [max(-most, min(most, factor * part)) for part in shifts[row - 1]]
    return shifts


class TestShift(unittest.TestCase):
    def test_shifts(self):
        chance = random.Random(111)
        for _ in range(80):
            amounts = [chance.randint(-100, 100) for _ in range(chance.randint(1, 4))]
            form = shift_map(amounts)
            wider = told_wider(form, [chance.choice([1, 2, 3]) for _ in amounts])
            self.assertEqual([shift(form), shift(wider)], [amounts, amounts])
        for accounts in range(1, 5):
            self.assertEqual(shift(same_map(accounts)), [0] * accounts)
            self.assertEqual(shift(told_wider(same_map(accounts), [2] * accounts)), [0] * accounts)

    def test_what_is_none(self):
        for form in (([1, 1], [([[0, 1], [1, 0]], [0, 0])]), ([1], [([[2]], [0])]), ([1], [([[0]], [5])]),
                     ([2], [([[1]], [1]), ([[1]], [2])]), ([1, 1], [([[1, 0], [1, 1]], [0, 0])]),
                     ([1, 1], [([[1, 1], [0, 1]], [0, 0])]), ([1], [([[-1]], [0])])):
            self.assertIsNone(shift(form))
            self.assertIsNone(shift(form=told_wider(form, [3] * len(form[0]))))
        chance = random.Random(112)
        for _ in range(60):
            form = some_form(chance, [2], 1)
            alike = form[1][0] == form[1][1] and form[1][0][0] == [[1]]
            self.assertEqual(shift(form), form[1][0][1] if alike else None)

    def test_lists(self):
        form = shift_map([1, 2])
        told = shift(form)
        spoil(told)
        self.assertEqual(form, shift_map([1, 2]))


class TestSteps(unittest.TestCase):
    def test_made_up(self):
        chance = random.Random(113)
        for _ in range(300):
            shifts = some_shifts(chance, chance.choice([1, 3, 10, 100]))
            steps = steps_of(shifts)
            self.assertTrue(is_in_steps(steps) and are_apart(steps, shifts))
            self.assertTrue(all(is_sum_of(steps, row) for row in shifts))
            for row in steps:
                self.assertEqual(summed(shifts, way(shifts, row)), row)
            self.assertEqual(steps_of(steps) if steps else [], steps)
            self.assertEqual(steps_of(shifts[::-1]), steps)

    def test_plain(self):
        self.assertEqual(steps_of([[5, -1], [2, 0]]), [[1, 1], [0, 2]])
        self.assertEqual(steps_of([[0, 0]]), [])
        self.assertEqual(steps_of([[-4]]), [[4]])
        self.assertEqual(steps_of(shifts=[[6], [10], [15]]), [[1]])
        self.assertEqual(steps_of([[0, 0, 3], [0, 2, 5], [0, 2, 5]]), [[0, 2, 2], [0, 0, 3]])


class TestWays(unittest.TestCase):
    def check(self, shifts, goal):
        often, bar = way(shifts, goal), against(shifts, goal)
        self.assertEqual([often is None, bar is None].count(True), 1)
        self.assertEqual(often is not None, is_sum_of(steps_of(shifts), goal))
        if often is not None:
            self.assertEqual((len(often), summed(shifts, often)), (len(shifts), goal))
        else:
            weights, modulus = bar
            self.assertEqual((len(weights), modulus == 0 or 2 <= modulus <= 10 ** 30), (len(goal), True))
            sums, wished = [weighted_sum(weights, row) for row in shifts], weighted_sum(weights, goal)
            if modulus == 0:
                self.assertEqual((any(sums), wished == 0), (False, False))
            else:
                self.assertEqual((any(one % modulus for one in sums), wished % modulus == 0), (False, False))
            self.assertIs(judge_against(shifts, goal, bar), True)
        return often, bar

    def test_made_up(self):
        chance = random.Random(114)
        kinds = {"way": 0, "nought": 0, "modulus": 0}
        for _ in range(600):
            shifts = some_shifts(chance, chance.choice([1, 3, 10, 100]))
            goal = summed(shifts, [chance.randint(-1000, 1000) for _ in shifts])
            if chance.random() < 0.6:
                goal[chance.randrange(len(goal))] += chance.choice([1, 2, 10, 30])
            if chance.random() < 0.2:
                goal = [chance.randint(-10 ** 9, 10 ** 9) for _ in goal]
            often, bar = self.check(shifts, goal)
            kinds["way" if often is not None else "nought" if bar[1] == 0 else "modulus"] += 1
        self.assertGreater(min(kinds.values()), 50)

    def test_all_small_ones(self):
        for shifts in ([[2, 0], [0, 3]], [[2, 1], [1, 2]], [[2, 4]], [[0, 0]], [[4, 6], [6, 4], [2, 2]], [[0, 2]]):
            for goal in all_rests([7, 7]):
                self.check(shifts, [part - 3 for part in goal])

    def test_plain(self):
        self.assertEqual([way([[2, 0]], [1, 0]), against([[5, -1], [2, 0]], [1, 1])], [None, None])
        self.assertEqual(way(goal=[1, 1], shifts=[[5, -1], [2, 0]]), [-1, 3])
        self.assertEqual([way([[3]], [-6]), way([[0]], [0]) in ([0], [1]), way([[0]], [5])], [[-2], True, None])
        self.assertIsNone(against(goal=[0, 0], shifts=[[4, 4]]))

    def test_lists(self):
        shifts, goal = [[2, 0], [0, 2]], [3, 4]
        told = against(shifts, goal)
        self.assertTrue(are_apart(told, shifts, goal))
        spoil(told)
        often = way(shifts, [2, 4])
        spoil(often)
        self.assertEqual((shifts, goal), ([[2, 0], [0, 2]], [3, 4]))


class TestJudge(unittest.TestCase):
    def tried(self, shifts, goal, weights, modulus):
        if len(weights) != len(goal):
            return False
        sums, wished = [weighted_sum(weights, row) for row in shifts], weighted_sum(weights, goal)
        if modulus == 0:
            return sums == [0] * len(shifts) and wished != 0
        return modulus >= 2 and all(one % modulus == 0 for one in sums) and wished % modulus > 0

    def test_made_up(self):
        chance = random.Random(115)
        found = []
        for _ in range(1500):
            shifts = some_shifts(chance, 4)
            goal = [chance.randint(-9, 9) for _ in shifts[0]]
            weights = [chance.randint(-4, 4) for _ in goal]
            modulus = chance.choice([-2, -1, 0, 0, 1, 2, 2, 3, 4, 6])
            told = judge_against(shifts, goal, (weights, modulus))
            self.assertIs(told, self.tried(shifts, goal, weights, modulus))
            found.append(told)
        self.assertGreater(found.count(True), 30)

    def test_plain(self):
        judged = [judge_against([[2, 0]], [0, 1], ([0, 1], 0)), judge_against([[2, 0]], [1, 0], ([1, 0], 2)),
                  judge_against([[2, 0]], [1, 0], ([1, 7], 2)), judge_against([[2, 0]], [1, 0], ([1, 0], 1)),
                  judge_against([[2, 0]], [1, 0], ([1, 0], 0)), judge_against([[2, 0]], [1, 0], ([1, 0], -2)),
                  judge_against([[2, 0]], [2, 0], ([1, 0], 2)), judge_against([[2, 0]], [1, 0], ([1], 2)),
                  judge_against([[2, 0]], [1, 0], ([1, 0, 0], 2)), judge_against([[2, 0]], [1, 0], ([], 2)),
                  judge_against([[2, 0]], [0, 0], ([0, 1], 0)), judge_against([[0, 0]], [1, 0], ([1, 0], 17))]
        self.assertEqual(judged, [True, True, True, False, False, False, False, False, False, False, False, True])

    def test_great(self):
        great = 10 ** 30
        self.assertIs(judge_against([[2], [4]], [1], ([great // 2], great)), True)
        self.assertIs(judge_against([[2], [4]], [2], ([great // 2], great)), False)
        self.assertIs(judge_against(told=([great, -great], 0), goal=[10 ** 9, 1], shifts=[[1, 1]]), True)
        self.assertIs(judge_against([[1, 1]], [10 ** 9, 10 ** 9], ([great, -great], 0)), False)
        self.assertIs(judge_against([[3, 1]], [1, 1], ([-10 ** 30 - 1, 3 * 10 ** 30 + 3], 10 ** 30 + 1)), False)

    def test_what_is_passed_stays(self):
        told = ([1, 0], 2)
        self.assertIs(judge_against([[2, 0]], [1, 0], told), True)
        self.assertEqual(told, ([1, 0], 2))
