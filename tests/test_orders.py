"""Promises 11 to 15 of orders.py: maps that pass one another, orders, merges and conflicts of logs."""

import itertools
import math
import random
import unittest

from accountmaps.deeds import map_of
from accountmaps.houses import House
from accountmaps.maps import alike, first_unlike, joined, least, same_map
from accountmaps.orders import apart_pairs, clash, clashes, classes, first_log, least_conflicts, merge_clash, merged
from accountmaps.orders import outcomes, pass_each_other, swaps
from accountmaps.rounds import power
from tests.helping import are_apart, cases, form_at, lists_within, some_calm_map, some_form, spoil, states_in_order
from tests.helping import told_wider

FIVE, THREE, DOUBLE, NOUGHT = [([1], [([[often]], [more])]) for often, more in ((1, 5), (1, 3), (2, 0), (0, 0))]
LOTS = [[1], [2], [3], [6], [1, 1], [2, 1], [2, 2], [1, 1, 1], [2, 1, 1], [1] * 4]


def put(account, many, amount):
    """The map that adds an amount to one of so many accounts."""
    moduli, [(matrix, amounts)] = same_map(many)
    return moduli, [(matrix, amounts[:account] + [amount] + amounts[account + 1:])]


def small_map(chance, moduli):
    """A form of a map that often passes others: one account is changed by itself alone, or all is mixed."""
    many = len(moduli)
    kind = chance.randrange(5)
    if kind == 0:
        return put(chance.randrange(many), many, chance.randint(1, 2))
    if kind == 1:
        return some_calm_map(chance, moduli)
    if kind == 2:
        return some_form(chance, [1] * many, 1)
    place = chance.randrange(many)
    moduli = [1] * place + [moduli[place]] + [1] * (many - place - 1)
    _, [(matrix, amounts)] = same_map(many)
    return moduli, [([row if at != place else [chance.choice([1, 1, 2, 0]) * part for part in row]
                      for at, row in enumerate(matrix)], amounts[:place] + [chance.randint(0, 1)] + amounts[place + 1:])
                    for _ in range(moduli[place])]


def some_log(chance, moduli, most):
    few = [small_map(chance, moduli) for _ in range(3)]
    return [chance.choice([chance.choice(few), small_map(chance, moduli)]) for _ in range(chance.randint(0, most))]


def done(log, accounts):
    """The form of a log's map, by `joined`."""
    form = same_map(accounts)
    for one in log:
        form = joined(form, one)
    return form


def passes(one, other):
    return joined(one, other) == joined(other, one)


def led(log):
    """All orders to which the indexes of a log can be led, with the least number of changes of places to each."""
    found = {tuple(range(len(log))): 0}
    lot = list(found)
    while lot:
        more = []
        for order in lot:
            for place in range(len(order) - 1):
                if passes(log[order[place]], log[order[place + 1]]):
                    other = order[:place] + (order[place + 1], order[place]) + order[place + 2:]
                    if other not in found:
                        found[other] = found[order] + 1
                        more.append(other)
        lot = more
    return found


class TestPassing(unittest.TestCase):
    def check(self, one, other):
        right = passes(one, other)
        self.assertEqual(pass_each_other(one, other), right)
        state = clash(one, other)
        self.assertEqual(state is None, right)
        if state is not None:
            for near in states_in_order(len(one[0]), max(abs(amount) for amount in state)):
                parted = form_at(one, form_at(other, near)) != form_at(other, form_at(one, near))
                self.assertEqual(parted, near == state)
                if parted:
                    break
        self.assertEqual(clash(other, one), state)
        return right

    def test_made_up(self):
        chance = random.Random(601)
        found = {True: 0, False: 0}
        for moduli in LOTS * 20:
            one, other = small_map(chance, moduli), small_map(chance, moduli)
            found[self.check(one, other)] += 1
            if max(moduli) < 4 and len(moduli) < 3:
                wide = told_wider(one, [2] * len(moduli))
                self.assertEqual(pass_each_other(wide, other), pass_each_other(one, other))
                self.assertEqual(clash(wide, other), clash(one, other))
        self.assertGreater(min(found.values()), 20)

    def test_as_the_head_says(self):
        self.assertTrue(self.check(FIVE, THREE))
        self.assertFalse(self.check(FIVE, DOUBLE))
        self.assertTrue(self.check(FIVE, FIVE))
        self.assertTrue(self.check(same_map(3), put(1, 3, 5)))
        self.assertTrue(pass_each_other(other=FIVE, one=THREE))
        self.assertEqual(clash(other=DOUBLE, one=FIVE), [0])
        far = ([60], [([[1]], [1 if rest == 30 else 0]) for rest in range(60)])
        self.assertEqual(clash(far, FIVE), [25])
        self.assertEqual(clash(told_wider(far, [1]), ([60], [([[1]], [60])] * 60)), None)
        found = clash(far, FIVE)
        found.append(1)
        self.assertEqual(clash(far, FIVE), [25])

    def test_clashes(self):
        chance = random.Random(602)
        for moduli in LOTS * 5:
            log = some_log(chance, moduli, 6)
            right = [(one, other) for one, other in itertools.combinations(range(len(log)), 2)
                     if not passes(log[one], log[other])]
            self.assertEqual(clashes(log), right)
        self.assertEqual(clashes([]), [])
        self.assertEqual(clashes(log=[FIVE, THREE, DOUBLE]), [(0, 2), (1, 2)])


class TestOrders(unittest.TestCase):
    def test_swaps(self):
        chance = random.Random(611)
        lengths = set()
        for moduli in LOTS * 3:
            log = some_log(chance, moduli, 5)
            orders = led(log)
            every = list(itertools.permutations(range(len(log))))
            for order in chance.sample(every, min(len(every), 20)) + chance.sample(list(orders), min(len(orders), 10)):
                found = swaps(log, list(order))
                self.assertEqual(found is None, order not in orders)
                if found is None:
                    continue
                self.assertEqual(len(found), orders[order])
                lengths.add(len(found))
                standing = list(range(len(log)))
                for place in found:
                    self.assertTrue(passes(log[standing[place]], log[standing[place + 1]]))
                    standing[place], standing[place + 1] = standing[place + 1], standing[place]
                self.assertEqual(standing, list(order))
                self.assertEqual(done([log[index] for index in standing], len(moduli)), done(log, len(moduli)))
        self.assertLessEqual({0, 1, 2, 3}, lengths)

    def test_first_of_the_shortest(self):
        for many in (2, 3, 4):
            log = [put(index % 2, 2, index + 1) for index in range(many)]
            for order in itertools.permutations(range(many)):
                found = swaps(log, list(order))
                for places in itertools.product(range(many - 1), repeat=len(found)):
                    standing = list(range(many))
                    for place in places:
                        standing[place], standing[place + 1] = standing[place + 1], standing[place]
                    if standing == list(order):
                        self.assertEqual(found, list(places))
                        break
        self.assertEqual(swaps([FIVE] * 6, [5, 4, 3, 2, 1, 0]), [0, 1, 0, 2, 1, 0, 3, 2, 1, 0, 4, 3, 2, 1, 0])
        self.assertEqual(swaps([], []), [])
        self.assertEqual(swaps(order=[1, 0, 2], log=[FIVE, THREE, DOUBLE]), [0])
        self.assertIsNone(swaps([FIVE, THREE, DOUBLE], [2, 0, 1]))
        self.assertIsNone(swaps([FIVE, DOUBLE], [1, 0]))
        order = [1, 0]
        swaps([FIVE, THREE], order).append(9)
        self.assertEqual(order, [1, 0])

    def test_first_log(self):
        chance = random.Random(612)
        for moduli in LOTS * 5:
            log = some_log(chance, moduli, 5)
            right = min([[least(log[index]) for index in order] for order in led(log)])
            found = first_log(log)
            self.assertEqual(found, right)
            self.assertTrue(are_apart(found))
            self.assertFalse({id(one) for one in lists_within(found)} & {id(one) for one in lists_within(log)})
        self.assertEqual(first_log([]), [])
        self.assertEqual(first_log(log=[FIVE, THREE]), [THREE, FIVE])
        self.assertEqual(first_log([told_wider(FIVE, [2])]), [FIVE])
        two, four, odd = put(0, 1, 2), put(0, 1, 4), ([2], [([[1]], [-9]), ([[1]], [-8])])
        self.assertEqual(first_log([odd, four, two]), [two, four, odd])
        # By the moduli first, then by the pieces, each by its matrix and then its amounts.
        one, other = put(0, 2, 5), put(1, 2, 3)
        self.assertEqual(first_log([one, other]), [other, one])
        log = [FIVE] * 6
        spoil(first_log(log))
        self.assertEqual(log, [([1], [([[1]], [5])])] * 6)

    def test_classes(self):
        chance = random.Random(613)
        for moduli in LOTS * 3:
            log = some_log(chance, moduli, 5)
            left = set(itertools.permutations(range(len(log))))
            right = 0
            while left:
                order = left.pop()
                left -= {tuple(order[index] for index in other) for other in led([log[index] for index in order])}
                right += 1
            self.assertEqual(classes(log), right)
        mixed = [([1], [([[often]], [1])]) for often in range(2, 8)]
        self.assertEqual(classes(mixed), 720)
        self.assertEqual(classes(log=[FIVE] * 6), 1)
        self.assertEqual(classes([]), 1)
        self.assertEqual(classes([FIVE, THREE, DOUBLE]), 4)
        self.assertEqual(classes([FIVE] * 3 + [DOUBLE] * 3), 230)

    def test_outcomes(self):
        chance = random.Random(614)
        found = set()
        for moduli in LOTS * 4:
            log = some_log(chance, moduli, 4)
            right = {str(done(order, len(moduli))) for order in itertools.permutations(log)}
            self.assertEqual(outcomes(log), len(right))
            self.assertLessEqual(outcomes(log), classes(log))
            found.add(outcomes(log))
        self.assertGreater(len(found), 4)
        self.assertEqual(outcomes([]), 1)
        self.assertEqual(outcomes([FIVE] * 5), 1)
        self.assertEqual(outcomes(log=[([1], [([[often]], [10 ** often])]) for often in range(2, 7)]), 120)
        self.assertEqual(outcomes([FIVE, DOUBLE, NOUGHT]), len({0, 5, 10}))


class TestMerges(unittest.TestCase):
    def test_made_up(self):
        chance = random.Random(621)
        found = {True: 0, False: 0}
        for moduli in LOTS * 12:
            base, one, other = [some_log(chance, moduli, 2) for _ in range(3)]
            if not base + one + other:
                continue
            accounts = len(moduli)
            first, second = done(base + one + other, accounts), done(base + other + one, accounts)
            self.assertEqual(merged(base, one, other), first if first == second else None)
            self.assertEqual(merge_clash(base, one, other), first_unlike(first, second))
            self.assertEqual(merge_clash(base, other, one), first_unlike(first, second))
            found[first == second] += 1
            if merged(base, one, other) is not None:
                self.assertIsNotNone(merged([small_map(chance, moduli)] + base, one, other))
        self.assertGreater(min(found.values()), 15)

    def test_edges(self):
        same = ([1], [([[1]], [0])])
        self.assertEqual(merged([NOUGHT], [DOUBLE], [same]), NOUGHT)
        self.assertEqual(merged([NOUGHT], [DOUBLE], [FIVE]), None)
        self.assertEqual(merge_clash([NOUGHT], [DOUBLE], [FIVE]), [0])
        self.assertEqual(merge_clash([], [FIVE], [DOUBLE]), [0])
        self.assertEqual(merged([], [FIVE], []), FIVE)
        self.assertEqual(merged([FIVE], [], []), FIVE)
        self.assertEqual(merged(other=[THREE], one=[FIVE], base=[]), ([1], [([[1]], [8])]))
        self.assertIsNone(merge_clash(other=[THREE], one=[FIVE], base=[]))
        # Behind maps that bring all to one state much passes that else does not.
        self.assertEqual(merged([NOUGHT], [DOUBLE], [([1], [([[3]], [0])])]), NOUGHT)
        self.assertEqual(merged([NOUGHT, FIVE], [DOUBLE], [([1], [([[-1]], [0])])]), ([1], [([[0]], [-10])]))

    def test_passing_is_merging_behind_the_empty_log(self):
        chance = random.Random(622)
        for moduli in LOTS * 5:
            one, other = small_map(chance, moduli), small_map(chance, moduli)
            self.assertEqual(pass_each_other(one, other), merged([], [one], [other]) is not None)
            self.assertEqual(clash(one, other), merge_clash([], [one], [other]))


class TestConflicts(unittest.TestCase):
    def test_made_up(self):
        chance = random.Random(631)
        sizes = set()
        for moduli in LOTS * 6:
            one, other = some_log(chance, moduli, 6), some_log(chance, moduli, 5)
            barred = {(a, b) for a in range(len(one)) for b in range(len(other)) if not passes(one[a], other[b])}
            pairs, lots = apart_pairs(one, other), least_conflicts(one, other)
            self.assertLessEqual(set(pairs), barred)
            for side in (0, 1):
                self.assertEqual(len({pair[side] for pair in pairs}), len(pairs))
            right = []
            for size in range(len(one) + len(other) + 1):
                for lot in itertools.combinations(range(len(one) + len(other)), size):
                    first = [index for index in lot if index < len(one)]
                    second = [index - len(one) for index in lot if index >= len(one)]
                    if all(a in first or b in second for a, b in barred):
                        right.append((first, second))
                if right:
                    break
            self.assertEqual(lots, sorted(right))
            self.assertEqual({len(first) + len(second) for first, second in lots}, {len(pairs)})
            self.assertTrue(are_apart(lots, pairs))
            sizes.add(len(pairs))
        self.assertGreater(len(sizes), 3)

    def test_edges(self):
        self.assertEqual(least_conflicts([], []), [([], [])])
        self.assertEqual(apart_pairs([], []), [])
        self.assertEqual(least_conflicts([FIVE], []), [([], [])])
        self.assertEqual(least_conflicts([FIVE, THREE], [THREE]), [([], [])])
        self.assertEqual(least_conflicts(other=[DOUBLE], one=[FIVE]), [([], [0]), ([0], [])])
        self.assertEqual(apart_pairs(other=[DOUBLE], one=[FIVE]), [(0, 0)])
        self.assertEqual(len(apart_pairs([FIVE] * 6, [DOUBLE] * 6)), 6)
        self.assertEqual(least_conflicts([FIVE] * 6, [DOUBLE] * 5), [([], [0, 1, 2, 3, 4])])
        # The first pair that comes must be given up for another one.
        two, three = [put(0, 2, 1), put(1, 2, 1)], [([1, 1], [([[2, 0], [0, 1]], [0, 0])]),
                                                    ([1, 1], [([[2, 0], [0, 2]], [0, 0])])]
        self.assertEqual(len(apart_pairs([two[0], two[1]], [three[1], three[0]])), 2)
        self.assertEqual(len(apart_pairs([two[1], two[0]], three)), 2)


class TestScripts(unittest.TestCase):
    def test_in_either_order(self):
        found = {True: 0, False: 0}
        for chance, accounts, scripts, script in cases(641, 200, [[1, 2], [2], [1]], 3):
            others = [script, [("put", chance.choice(accounts), ("number", 1))],
                      [("set", chance.choice(accounts), ("rest", ("account", chance.choice(accounts)), 2))]]
            one, other = chance.sample(others, 2)
            house = House(accounts, scripts)
            forms = [map_of(house, lot) for lot in (one, other)]
            if math.prod(math.lcm(*[modulus for form in forms for modulus in form[0]]) for _ in accounts) > 60:
                continue
            right = map_of(house, one + other) == map_of(house, other + one)
            self.assertEqual(pass_each_other(*forms), right)
            self.assertEqual(merged([], forms[:1], forms[1:]), map_of(house, one + other) if right else None)
            found[right] += 1
        self.assertGreater(min(found.values()), 15)

    def test_powers(self):
        chance = random.Random(642)
        for moduli in LOTS * 6:
            one, other = small_map(chance, moduli), small_map(chance, moduli)
            times = chance.randint(0, 4)
            self.assertTrue(pass_each_other(power(one, 2), power(one, times)))
            if pass_each_other(one, other):
                self.assertTrue(pass_each_other(power(one, times), power(other, 3)))
                self.assertTrue(alike(power(joined(one, other), times), joined(power(one, times), power(other, times))))
