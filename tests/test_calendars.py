"""Promises 19 and 20: the times of a wish, and calendars."""

import math
import random
import unittest

from accountmaps.rounds import both, is_calendar, many_before, neither, next_from, times_when
from tests.helping import are_apart, form_at, some_calm_map, some_form, spoil, told_wider, weighted_sum

SELL = ([1, 1], [([[1, 0], [0, 1]], [5, -1])])
DAY = ([3], [([[0]], [1]), ([[0]], [2]), ([[0]], [0])])
NONE, ALL = ([], 0, 1, []), ([], 0, 1, [0])


def plain_calendar(truths, first, length):
    """The calendar of numbers that come again from a first one on behind a length, by trying all that is less."""
    def holds(number):
        return truths[number if number < first else first + (number - first) % length]

    for early in range(first + 1):
        for less in range(1, length + 1):
            if length % less == 0 and all(holds(one) == holds(one + less) for one in range(early, first + length)):
                return ([one for one in range(early) if holds(one)], early, less,
                        [one for one in range(less) if holds(early + one)])
    return None


def in_calendar(told, number):
    early, first, length, found = told
    return number in early or any(number >= first + rest and (number - first - rest) % length == 0 for rest in found)


def some_calendar(chance, most=12):
    first, length = chance.choice([0, 0, 1, 2, 3, 5, 8]), chance.randint(1, most)
    chances = chance.choice([0, 0.2, 0.5, 0.8, 1])
    return plain_calendar([chance.random() < chances for _ in range(first + length)], first, length)


class TestTimesWhen(unittest.TestCase):
    def test_made_up(self):
        chance = random.Random(171)
        kinds = set()
        for moduli in [[1], [2], [6], [60], [2, 1], [3, 3], [6, 2], [2, 1, 2], [1] * 4, [2, 1, 1, 1]] * 20:
            form = some_calm_map(chance, moduli) if chance.random() < 0.7 else some_form(chance, moduli, 100)
            own = math.lcm(*moduli)
            modulus = chance.choice([one for one in range(1, 13) if math.lcm(one, own) ** len(moduli) <= 600])
            whole = math.lcm(own, modulus)
            state = [chance.randint(-10 ** 9, 10 ** 9) for _ in moduli]
            weights = [chance.choice([0, 1, -1, chance.randint(-10 ** 9, 10 ** 9)]) for _ in moduli]
            rest = chance.randrange(modulus)
            told = times_when(told_wider(form, [chance.choice([1, 2]) for _ in moduli]), state, weights, modulus, rest)
            places, lot, rests = {}, [], tuple(amount % whole for amount in state)
            while rests not in places:
                places[rests] = len(lot)
                lot.append(rests)
                rests = tuple(amount % whole for amount in form_at(form, rests))
            truths = [weighted_sum(weights, one) % modulus == rest for one in lot]
            self.assertEqual(told, plain_calendar(truths, places[rests], len(lot) - places[rests]))
            self.assertTrue(is_calendar(told) and are_apart(told))
            now = state
            for times in range(12):
                self.assertEqual(in_calendar(told, times), weighted_sum(weights, now) % modulus == rest)
                now = form_at(form, now)
            kinds.add((bool(told[0]), told[1] > 0, told[2] > 1, bool(told[3])))
        self.assertGreater(len(kinds), 6)

    def test_plain(self):
        self.assertEqual([times_when(DAY, [9], [1], 2, 1), times_when(SELL, [0, 0], [1, 0], 3, 0)],
                         [([0], 1, 3, [0]), ([], 0, 3, [0])])
        self.assertEqual(times_when(rest=0, modulus=1, weights=[1], state=[9], form=DAY), ALL)
        self.assertEqual([times_when(SELL, [0, 0], [1, 5], 6, rest) for rest in (0, 1)], [ALL, NONE])
        # Early ones alone, and all but early ones.
        gone = ([1], [([[0]], [4])])
        self.assertEqual([times_when(gone, [3], [1], 2, 1), times_when(gone, [3], [1], 2, 0)],
                         [([0], 1, 1, []), ([], 1, 1, [0])])

    def test_late_and_long(self):
        line = ([600], [([[1]], [1])] * 599 + [([[1]], [0])])
        self.assertEqual(times_when(line, [0], [1], 600, 599), ([], 599, 1, [0]))
        self.assertEqual(times_when(line, [0], [1], 600, 5), ([5], 6, 1, []))
        self.assertEqual(times_when(line, [0], [1], 2, 0), (list(range(0, 599, 2)), 599, 1, []))
        self.assertEqual(times_when(([1], [([[1]], [1])]), [0], [1], 600, 17), ([], 0, 600, [17]))
        self.assertEqual(times_when(([1], [([[1]], [1])]), [0], [10], 600, 170), ([], 0, 60, [17]))

    def test_lists(self):
        form, state, weights = told_wider(SELL, [2, 2]), [1, 2], [3, 4]
        spoil(times_when(form, state, weights, 2, 1))
        self.assertEqual((form, state, weights), (told_wider(SELL, [2, 2]), [1, 2], [3, 4]))


class TestIsCalendar(unittest.TestCase):
    def test_all_small_ones(self):
        least = set()
        for first in range(4):
            for length in range(1, 5):
                for bits in range(2 ** (first + length)):
                    truths = [bits >> one & 1 == 1 for one in range(first + length)]
                    told = ([one for one in range(first) if truths[one]], first, length,
                            [one for one in range(length) if truths[first + one]])
                    expected = plain_calendar(truths, first, length)
                    self.assertIs(is_calendar(told), told == expected)
                    self.assertIs(is_calendar(expected), True)
                    least.add(repr(expected))
        self.assertGreater(len(least), 50)

    def test_what_is_none(self):
        for told in (([], -1, 1, []), ([], 0, 0, []), ([], 0, -1, []), ([], 0, 0, [0]), ([0], 0, 1, [0]),
                     ([1, 0], 2, 3, [0]), ([0, 0], 1, 1, []), ([-1], 1, 1, [0]), ([1], 1, 1, []), ([], 0, 2, [1, 0]),
                     ([], 0, 2, [0, 0]), ([], 0, 2, [2]), ([], 0, 2, [-1]), ([], 1, 1, []), ([0], 1, 1, [0]),
                     ([], 0, 2, []), ([], 0, 2, [0, 1]), ([], 0, 6, [0, 3]), ([], 0, 6, [0, 2, 4]), ([0], 1, 6, [0, 3]),
                     ([], 1, 2, [0]), ([0], 1, 2, [1]), ([], 2, 3, [0, 1]), ([-2, 0], 1, 1, []), ([0, 1], 2, 1, [0])):
            self.assertIs(is_calendar(told), False, told)

    def test_what_is_one(self):
        for told in (NONE, ALL, ([], 1, 1, [0]), ([0], 1, 1, []), ([], 0, 2, [0]), ([], 0, 2, [1]), ([0], 1, 2, [0]),
                     ([], 1, 2, [1]), ([0], 1, 3, [0]), ([], 0, 6, [0, 2]), ([1], 3, 1, [0]), ([0, 1], 2, 4, [0, 1])):
            self.assertIs(is_calendar(told), True, told)
        self.assertIs(is_calendar(told=([0], 1, 3, [0])), True)

    def test_great_ones(self):
        for told, expected in ((([], 600, 600, [0, 599]), True), (([599], 600, 600, [0]), True),
                               (([599], 600, 600, [0, 599]), False), (([], 600, 600, [0]), False),
                               (([], 0, 600, list(range(0, 600, 2))), False), (([], 0, 600, list(range(0, 600, 7))), True),
                               (([], 0, 10 ** 30, [0]), True), (([], 0, 10 ** 30, [0, 5 * 10 ** 29]), False),
                               (([], 10 ** 30, 10 ** 30, []), False), (([10 ** 30 - 1], 10 ** 30, 1, []), True)):
            self.assertIs(is_calendar(told), expected)


class TestBothAndNeither(unittest.TestCase):
    def check(self, one, other):
        first, length = max(one[1], other[1]), math.lcm(one[2], other[2])
        span = range(first + length)
        lots = [[in_calendar(one, at) and in_calendar(other, at) for at in span],
                [not in_calendar(one, at) and not in_calendar(other, at) for at in span]]
        for call, truths in zip((both, neither), lots):
            told = call(one, other)
            self.assertEqual(told, plain_calendar(truths, first, length))
            self.assertEqual((call(other, one), is_calendar(told), are_apart(told, one, other)), (told, True, True))

    def test_made_up(self):
        chance = random.Random(172)
        for _ in range(250):
            self.check(some_calendar(chance), some_calendar(chance))

    def test_plain(self):
        odd_days, even = ([0], 1, 3, [0]), ([], 0, 2, [0])
        self.assertEqual([both(odd_days, even), neither(odd_days, even)], [([0], 1, 6, [3]), ([], 0, 6, [3, 5])])
        self.assertEqual([both(other=even, one=ALL), both(one=NONE, other=even), neither(other=NONE, one=even)],
                         [even, NONE, ([], 0, 2, [1])])
        self.assertEqual([neither(ALL, NONE), neither(NONE, NONE), both(ALL, ALL)], [NONE, ALL, ALL])

    def test_great_lengths(self):
        one, other = ([], 0, 600, list(range(0, 600, 7))), ([], 0, 8, [1])
        told = both(one, other)
        self.assertEqual((told[1:3], all(in_calendar(one, at) and at % 8 == 1 for at in told[3])), ((0, 600), True))
        self.assertEqual(both(([], 0, 24, [5]), ([], 0, 25, [7])), ([], 0, 600, [557]))
        self.assertEqual(both(([], 600, 1, [0]), ([], 0, 25, [0])), ([], 576, 25, [24]))

    def test_wishes_of_one_state(self):
        chance = random.Random(173)
        for _ in range(40):
            form = some_calm_map(chance, [2, 1])
            state = [chance.randint(-9, 9), chance.randint(-9, 9)]
            one, other = times_when(form, state, [1, 2], 4, 1), times_when(form, state, [1, 1], 6, 2)
            met, now = both(one, other), state
            for times in range(30):
                wishes = weighted_sum([1, 2], now) % 4 == 1 and weighted_sum([1, 1], now) % 6 == 2
                self.assertEqual(in_calendar(met, times), wishes)
                now = form_at(form, now)

    def test_lists_that_are_changed_behind(self):
        one, other = ([0], 1, 3, [0]), ([], 0, 2, [0])
        told = both(one, other)
        spoil([one, other])
        self.assertEqual(told, ([0], 1, 6, [3]))
        one = ([0], 1, 3, [0])
        spoil(both(one, ALL))
        self.assertEqual(one, ([0], 1, 3, [0]))


class TestNumbers(unittest.TestCase):
    def test_made_up(self):
        chance = random.Random(174)
        for _ in range(150):
            told = some_calendar(chance)
            numbers = [at for at in range(200) if in_calendar(told, at)]
            for number in [0, 1] + [chance.randint(0, 60) for _ in range(12)]:
                self.assertEqual(many_before(told, number), len([one for one in numbers if one < number]))
                self.assertEqual(next_from(told, number), ([one for one in numbers if one >= number] + [None])[0])

    def test_great_numbers(self):
        chance = random.Random(175)
        for _ in range(60):
            told = some_calendar(chance, 60)
            number = chance.choice([10 ** 30, chance.randint(10 ** 29, 10 ** 30)])
            step = next_from(told, number)
            if not told[3]:
                self.assertEqual((step, many_before(told, number)), (None, len(told[0])))
            else:
                near = [number + more for more in range(told[2]) if in_calendar(told, number + more)]
                self.assertEqual(step, near[0])
                self.assertEqual(many_before(told, number + told[2]) - many_before(told, number), len(told[3]))
                self.assertEqual(many_before(told, step), many_before(told, number))
                self.assertEqual(many_before(told, step + 1), many_before(told, number) + 1)

    def test_plain(self):
        odd_days = ([0], 1, 3, [0])
        self.assertEqual([many_before(odd_days, 10 ** 30), next_from(odd_days, 2)],
                         [333333333333333333333333333334, 4])
        self.assertEqual([many_before(told=odd_days, number=one) for one in (0, 1, 2, 4, 5)], [0, 1, 2, 2, 3])
        self.assertEqual([next_from(number=one, told=odd_days) for one in (0, 1, 2, 4, 5)], [0, 1, 4, 4, 7])
        self.assertEqual([next_from(NONE, 0), next_from(([4], 5, 1, []), 4), next_from(([4], 5, 1, []), 5)],
                         [None, 4, None])
        self.assertEqual([many_before(ALL, 10 ** 30), next_from(ALL, 10 ** 30)], [10 ** 30] * 2)
