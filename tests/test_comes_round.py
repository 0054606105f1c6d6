"""Promises 17 and 18: maps and states that come round, and states that drift."""

import math
import random
import unittest

from accountmaps.maps import same_map
from accountmaps.rounds import comes_round, comes_round_at, drift, power
from tests.helping import all_rests, form_at, some_calm_map, some_form, spoil, told_wider

SELL = ([1, 1], [([[1, 0], [0, 1]], [5, -1])])
DAY = ([3], [([[0]], [1]), ([[0]], [2]), ([[0]], [0])])
SMALL = [[1], [2], [5], [7], [12], [60], [2, 1], [3, 1], [2, 2], [6, 3], [2, 1, 2], [3, 1, 1], [2, 2, 1, 1], [1] * 4]
# A matrix whose powers come round behind 12 times, and one behind 5.
TWELVE = [[0, -1, 0, 0], [1, 0, 0, 0], [0, 0, 0, -1], [0, 0, 1, -1]]
FIVE = [[0, 0, 0, -1], [1, 0, 0, -1], [0, 1, 0, -1], [0, 0, 1, -1]]


def walk(form, state, times):
    found = [tuple(state)]
    for _ in range(times):
        found.append(tuple(form_at(form, found[-1])))
    return found


def some_map(chance, moduli):
    many = len(moduli)
    if many == 4 and chance.random() < 0.3:
        matrix = chance.choice([TWELVE, FIVE])
        return list(moduli), [(matrix, [chance.randint(-2, 2) for _ in moduli]) for _ in all_rests(moduli)]
    return some_calm_map(chance, moduli) if chance.random() < 0.8 else some_form(chance, moduli, 1)


def tried_round(form, state, times):
    """The round of a state, found by walking on; None if none comes in so many times."""
    places = {}
    for at, now in enumerate(walk(form, state, times)):
        if now in places:
            return places[now], at - places[now]
        places[now] = at
    return None


def tried_drift(form, state, late, longest):
    """The drift of a state, seen in a late stretch of its walk."""
    states = walk(form, state, late + 2 * longest)
    moves = [tuple(b - a for a, b in zip(one, other)) for one, other in zip(states, states[1:])][late:]
    for length in range(1, longest + 1):
        if moves[:-length] == moves[length:]:
            return length, [b - a for a, b in zip(states[late], states[late + length])]
    return None


class TestStates(unittest.TestCase):
    def test_made_up(self):
        chance = random.Random(161)
        kinds = {"round": 0, "drift": 0, "none": 0}
        for moduli in [one for one in SMALL if max(one) < 60] * 12:
            form = some_map(chance, moduli)
            rounds = math.lcm(*moduli) ** len(moduli)
            late, longest = rounds + rounds * len(moduli), rounds * 12
            wider = told_wider(form, [chance.choice([1, 1, 2]) for _ in moduli])
            for _ in range(2):
                state = [chance.randint(-5, 5) for _ in moduli]
                told, moved = comes_round_at(wider, state), drift(wider, state)
                self.assertEqual(told, tried_round(form, state, late + longest))
                if late + 2 * longest < 1500:
                    self.assertEqual(moved, tried_drift(form, state, late, longest))
                if told is not None:
                    self.assertEqual(moved, (told[1], [0] * len(moduli)))
                kinds["round" if told is not None else "drift" if moved is not None else "none"] += 1
        self.assertGreater(min(kinds.values()), 10)

    def test_plain_rounds(self):
        self.assertEqual([comes_round_at(DAY, [1]), comes_round_at(DAY, [9]), comes_round_at(SELL, [0, 0])],
                         [(0, 3), (1, 3), None])
        self.assertEqual([comes_round_at(same_map(2), [5, 5]), comes_round_at(([1], [([[0]], [4])]), [3]),
                          comes_round_at(([1], [([[0]], [4])]), [4])], [(0, 1), (1, 1), (0, 1)])
        self.assertEqual(comes_round_at(state=[1], form=([1], [([[-1]], [0])])), (0, 2))
        self.assertEqual(comes_round_at(([1], [([[-1]], [2])]), [1]), (0, 1))
        self.assertEqual([comes_round_at(([1], [([[2]], [0])]), [state]) for state in (-1, 0, 1)], [None, (0, 1), None])

    def test_orders(self):
        for matrix, order in ((TWELVE, 12), (FIVE, 5)):
            form = ([1] * 4, [(matrix, [0] * 4)])
            self.assertEqual([comes_round(form), comes_round_at(form, [1, 0, 1, 0])], [(0, order)] * 2)
            self.assertEqual(comes_round_at(form, [0, 0, 0, 0]), (0, 1))
        for many, matrix, order in ((1, [[-1]], 2), (2, [[0, -1], [1, 1]], 6), (3, [[0, -1, 0], [1, 1, 0], [0, 0, 1]], 6),
                                    (4, TWELVE, 12)):
            form = ([1] * many, [(matrix, [0] * many)])
            self.assertEqual([comes_round(form), drift(form, [1, 0, 1, 0][:many])], [(0, order), (order, [0] * many)])
        chain = ([1] * 4, [([[0, 1, 0, 0], [0, 0, 1, 0], [0, 0, 0, 1], [0, 0, 0, 0]], [0, 0, 0, 0])])
        self.assertEqual([comes_round(chain), comes_round_at(chain, [0, 0, 0, 1])], [(4, 1)] * 2)

    def test_rounds_that_are_long_or_late(self):
        turn = ([600], [([[1]], [1])] * 599 + [([[1]], [-599])])
        self.assertEqual([comes_round_at(turn, [0]), comes_round_at(turn, [-1]), drift(turn, [3])],
                         [(0, 600), (0, 600), (600, [0])])
        line = ([600], [([[1]], [1])] * 599 + [([[1]], [0])])
        self.assertEqual([comes_round_at(line, [0]), comes_round_at(line, [1199]), drift(line, [0])],
                         [(599, 1), (0, 1), (1, [0])])
        far = ([600], [([[1]], [1])] * 600)
        self.assertEqual([comes_round_at(far, [0]), drift(far, [0])], [None, (1, [1])])
        # Along the way the amounts are turned at each rest, so that it takes two rounds of the rests.
        turned = ([1, 5], [([[-1, 0], [0, 1]], [0, 1])] * 4 + [([[-1, 0], [0, 1]], [0, -4])])
        self.assertEqual([comes_round(turned), comes_round_at(turned, [1, 0]), comes_round_at(turned, [0, 0])],
                         [(0, 10), (0, 10), (0, 5)])

    def test_orders_at_some_rests_alone(self):
        six, same = [[0, -1, 0], [1, 1, 0], [0, 0, 1]], [[1, 0, 0], [0, 1, 0], [0, 0, 1]]
        form = ([1, 1, 3], [(six, [0, 0, 1]), (same, [0, 0, 1]), (same, [0, 0, -2])])
        self.assertEqual([comes_round(form), comes_round_at(form, [1, 0, 0]), comes_round_at(form, [0, 0, 4])],
                         [(0, 18), (0, 18), (0, 3)])
        self.assertEqual([drift(form, [1, 0, 0]), drift(form, [0, 0, 0])], [(18, [0, 0, 0]), (3, [0, 0, 0])])
        moved = ([1, 1, 3], [(six, [1, 0, 1]), (same, [0, 0, 1]), (same, [0, 0, -2])])
        self.assertEqual([comes_round(moved), drift(moved, [5, 5, 2])], [(0, 18), (18, [0, 0, 0])])

    def test_great_on_the_way(self):
        great = ([1, 7], [([[100, 0], [0, 1]], [1, 1])] * 6 + [([[0, 0], [0, 1]], [0, -6])])
        told = comes_round_at(great, [3, 1])
        self.assertEqual((told, drift(great, [3, 1])), ((6, 7), (7, [0, 0])))
        growing = ([4] * 4, [([[100, 0, 0, 1], [0, 99, 1, 0], [7, 0, 98, 0], [0, 0, -5, 100]], [1, 2, 3, place % 4])
                             for place in range(256)])
        self.assertEqual([comes_round_at(growing, [1, 2, 3, 4]), drift(growing, [1, 2, 3, 4])], [None, None])


class TestDrift(unittest.TestCase):
    def test_plain(self):
        self.assertEqual([drift(SELL, [0, 0]), drift(DAY, [9]), drift(same_map(3), [1, 2, 3])],
                         [(1, [5, -1]), (3, [0]), (1, [0, 0, 0])])
        self.assertEqual(drift(state=[1], form=([1], [([[2]], [0])])), None)
        crossed = ([1, 1], [([[0, 1], [1, 0]], [1, 0])])
        self.assertEqual(drift(crossed, [0, 0]), (2, [1, 1]))

    def test_length_less_than_the_rounds_of_the_rests(self):
        # The rests by 7 matter for the second account alone, which is nought here.
        form = ([7, 1], [([[1, rest], [0, 1]], [1, 0]) for rest in range(7)])
        self.assertEqual([drift(form, [3, 0]), drift(form, [3, 7])], [(1, [1, 0]), (7, [7 + 7 * 21, 0])])

    def test_shifts_that_are_not_always_the_same(self):
        # At every other time the two accounts stand the other way round, and so does what was added.
        turns = ([1, 1, 2], [([[0, 1, 0], [1, 0, 0], [0, 0, 1]], [0, 0, 1]),
                             ([[0, 1, 0], [1, 0, 0], [0, 0, 1]], [1, 0, -1])])
        self.assertEqual(walk(turns, [0, 0, 0], 4)[::2], [(0, 0, 0), (1, 0, 0), (2, 0, 0)])
        self.assertIsNone(drift(turns, [0, 0, 0]))
        # Grows by ever more: no list of integers is the same each time.
        self.assertIsNone(drift(([1, 1], [([[1, 1], [0, 1]], [0, 1])]), [0, 0]))
        self.assertEqual(drift(([1, 1], [([[1, 1], [0, 1]], [0, 0])]), [0, 3]), (1, [3, 0]))

    def test_behind_a_late_start(self):
        form = ([60], [([[1]], [1])] * 59 + [([[1]], [60])])
        self.assertEqual(drift(form, [0]), (1, [60]))
        self.assertEqual(drift(told_wider(form, [2]), [-60 * 9 + 4]), (1, [60]))

    def test_lists(self):
        form, state = told_wider(SELL, [2, 2]), [1, 2]
        told = drift(form, state)
        spoil(told)
        self.assertEqual((form, state), (told_wider(SELL, [2, 2]), [1, 2]))
        told = drift(form, state)
        spoil([form, state])
        self.assertEqual(told, (1, [5, -1]))


class TestMaps(unittest.TestCase):
    def test_as_states_do(self):
        chance = random.Random(162)
        nones = 0
        for moduli in SMALL * 6:
            form = some_map(chance, moduli)
            told = comes_round(told_wider(form, [chance.choice([1, 2]) for _ in moduli]))
            rests = all_rests([math.lcm(*moduli)] * len(moduli))
            # A state far out, with unlike amounts, shows of its rests what no plane within them hides.
            states = [[rest + math.lcm(*moduli) * chance.randint(1000, 10 ** 6) for rest in one] for one in rests]
            lots = [comes_round_at(form, state) for state in states]
            if None in lots:
                nones += 1
                self.assertIsNone(told)
            else:
                self.assertEqual(told, (max(one for one, _ in lots), math.lcm(*[length for _, length in lots])))
        self.assertGreater(nones, 4)

    def test_powers_are_the_same(self):
        chance = random.Random(163)
        for moduli in SMALL * 2:
            form = some_calm_map(chance, moduli)
            told = comes_round(form)
            if told is not None and told[1] < 200:
                first, length = told
                self.assertEqual(power(form, first), power(form, first + length))
                for less in [one for one in range(1, length) if length % one == 0]:
                    self.assertNotEqual(power(form, first), power(form, first + less))
                if first > 0:
                    self.assertNotEqual(power(form, first - 1), power(form, first - 1 + length))

    def test_plain(self):
        self.assertEqual([comes_round(SELL), comes_round(DAY), comes_round(form=same_map(4))], [None, (1, 3), (0, 1)])
        self.assertEqual(comes_round(([1], [([[1]], [0])])), (0, 1))
        self.assertEqual([comes_round(([1], [([[part]], [5])])) for part in (-2, -1, 0, 1, 2)],
                         [None, (0, 2), (1, 1), None, None])

    def test_some_state_never_comes_round(self):
        # All states with even amounts come round, and those with odd ones do not.
        form = ([2], [([[-1]], [0]), ([[1]], [2])])
        self.assertEqual([comes_round(form), comes_round_at(form, [4]), comes_round_at(form, [5])], [None, (0, 2), None])
        # Only in one plane they come round.
        form = ([1, 1], [([[1, 1], [0, 1]], [0, 0])])
        self.assertEqual([comes_round(form), comes_round_at(form, [4, 0]), comes_round_at(form, [4, 1])],
                         [None, (0, 1), None])

    def test_great_length(self):
        # Rounds of the rests of 3, 4, 5, 7, 11, 13 and 17 times.
        pieces, start = [], 0
        for many in (3, 4, 5, 7, 11, 13, 17):
            pieces.extend(([[1]], [1]) for _ in range(many - 1))
            pieces.append(([[1]], [1 - many]))
        self.assertEqual(len(pieces), 60)
        self.assertEqual(comes_round(([60], pieces)), (0, 3 * 4 * 5 * 7 * 11 * 13 * 17))
