"""Promises 16 to 19 of boxes.py: least and greatest numbers, counts and sums, boxes that grow, boxes of scripts."""

import itertools
import math
import random
import unittest

from accountmaps.boxes import greatest_of, grown, how_many, hull, least_of, leaves, leaving, total
from accountmaps.deeds import form_of, map_of, run, value
from accountmaps.houses import House
from accountmaps.kept import kept
from accountmaps.rounds import power, times_when
from tests.helping import all_rests, are_apart, cases, form_at, some_calm_map, some_form, some_formula
from tests.helping import some_keeping_map, some_results, spoil, told_wider

FIVE, HALF = ([1], [([[1]], [5])]), ([2], [([[1]], [0]), ([[1]], [1])])
NIGHT = ([7], [([[0]], [rest]) for rest in (1, 2, 3, 4, 5, 6, 0)])
LOTS = [[1], [2], [7], [60], [1, 1], [2, 3], [1, 4], [1, 1, 1], [2, 1, 3], [2, 1, 1, 2], [1] * 4]
FAR = 10 ** 9


def states_of(box):
    """All states of a box, as lists ascending."""
    return [list(state) for state in itertools.product(*[range(low, high + 1) for low, high in box])]


def some_box(chance, many, wide):
    found = []
    for _ in range(many):
        low = chance.randint(-5, 5)
        found.append((low, low + chance.randint(0, wide)))
    return found


def is_in(state, box):
    return all(low <= amount <= high for amount, (low, high) in zip(state, box))


def corners(form, box):
    """The states of a box of which a row is least or greatest somewhere: its first and last ones for each rest."""
    moduli, _ = form
    sides = [[amount for amount in list(range(low, min(low + modulus, high + 1)))
              + list(range(max(low, high - modulus + 1), high + 1))] for (low, high), modulus in zip(box, moduli)]
    return [list(state) for state in itertools.product(*sides)]


class TestEnds(unittest.TestCase):
    def check(self, form, box, states):
        results = len(form[1][0][1])
        lots = [form_at(form, state) for state in states]
        ends = []
        for result in range(results):
            low, high = min(lot[result] for lot in lots), max(lot[result] for lot in lots)
            ends.append((low, high))
            number, state = least_of(form, result, box)
            self.assertEqual((number, form_at(form, state)[result], is_in(state, box)), (low, low, True))
            other, greatest = greatest_of(form, result, box)
            self.assertEqual((other, form_at(form, greatest)[result], is_in(greatest, box)), (high, high, True))
            self.assertEqual(state, min(one for one, lot in zip(states, lots) if lot[result] == low))
            self.assertEqual(greatest, min(one for one, lot in zip(states, lots) if lot[result] == high))
        self.assertEqual(hull(form, box), ends)

    def test_few_states(self):
        chance = random.Random(701)
        for moduli in LOTS * 10:
            form = some_results(chance, moduli, chance.randint(1, 3), chance.choice([0, 1, 5, 100]))
            box = some_box(chance, len(moduli), [0, 70, 9, 4, 3][len(moduli)] if chance.random() < 0.9 else 0)
            self.check(form, box, states_of(box))

    def test_great_boxes(self):
        chance = random.Random(702)
        for moduli in [[1], [2], [7], [1, 1], [2, 3], [3, 1, 1], [1] * 4, [2, 1, 1, 1]] * 3:
            form = some_results(chance, moduli, 2, chance.choice([1, 100]))
            box = [(chance.choice([-FAR, -FAR + 1, 0, 3]), chance.choice([FAR, FAR - 2, 5])) for _ in moduli]
            self.check(form, box, sorted(corners(form, box)))
        wide = some_results(chance, [600], 1, 100)
        self.check(wide, [(-FAR, FAR)], sorted(corners(wide, [(-FAR, FAR)])))

    def test_edges(self):
        self.assertEqual([least_of(NIGHT, 0, [(3, 9)]), greatest_of(NIGHT, 0, [(3, 9)])], [(0, [6]), (6, [5])])
        self.assertEqual(least_of(FIVE, 0, [(7, 7)]), (12, [7]))
        self.assertEqual(least_of(box=[(-FAR, FAR)], result=0, form=FIVE), (5 - FAR, [-FAR]))
        self.assertEqual(greatest_of(box=[(-FAR, FAR)], result=0, form=FIVE), (5 + FAR, [FAR]))
        self.assertEqual(hull(box=[(-2, 4)], form=FIVE), [(3, 9)])
        nothing = ([1, 1], [([[0, 0]], [4])])
        self.assertEqual(least_of(nothing, 0, [(-FAR, FAR), (2, 3)]), (4, [-FAR, 2]))
        self.assertEqual(greatest_of(nothing, 0, [(-FAR, FAR), (2, 3)]), (4, [-FAR, 2]))
        self.assertEqual(greatest_of(([1, 1], [([[0, -1]], [0])]), 0, [(-1, 1), (2, 3)]), (-2, [-1, 2]))
        # The same number comes with several rests: the first state of all of them.
        self.assertEqual(least_of(([3], [([[0]], [1]), ([[0]], [0]), ([[0]], [0])]), 0, [(0, 9)]), (0, [1]))
        box = [(0, 5)]
        least_of(FIVE, 0, box)[1].append(7)
        hull(FIVE, box).append(7)
        self.assertEqual((box, hull(FIVE, box)), ([(0, 5)], [(5, 10)]))
        self.assertTrue(are_apart(hull(told_wider(FIVE, [7]), box)))


class TestLeaving(unittest.TestCase):
    def test_leaves(self):
        chance = random.Random(711)
        found = {True: 0, False: 0}
        for moduli in LOTS * 14:
            results = chance.randint(1, 3)
            form = some_results(chance, moduli, results, chance.choice([0, 1, 5]))
            box = some_box(chance, len(moduli), [0, 70, 9, 4, 3][len(moduli)])
            ends = hull(form, box)
            other = [(low + chance.choice([0, 0, -1, 1, 9]), high + chance.choice([0, 0, -1, 1, -9])) for low, high in ends]
            other = [(low, max(low, high)) for low, high in other]
            out = [state for state in states_of(box) if not is_in(form_at(form, state), other)]
            self.assertEqual(leaves(form, box, other), out[0] if out else None)
            found[not out] += 1
        self.assertGreater(min(found.values()), 15)

    def test_leaves_great_boxes(self):
        self.assertEqual(leaves(FIVE, [(-FAR, FAR)], [(-FAR, FAR)]), [FAR - 4])
        self.assertEqual(leaves(FIVE, [(-FAR, FAR)], [(-FAR + 6, FAR + 5)]), [-FAR])
        self.assertIsNone(leaves(FIVE, [(-FAR, FAR)], [(-FAR + 5, FAR + 5)]))
        two = ([1, 1], [([[3, 5]], [0])])
        # The first amount can be as low as the other one, at its greatest, lets it be.
        self.assertEqual(leaves(two, [(-FAR, FAR), (0, FAR)], [(-3 * FAR, 5 * FAR)]), [1, FAR])
        self.assertEqual(leaves(two, [(-FAR, FAR), (0, FAR)], [(-3 * FAR, 5 * FAR - 1)]), [0, FAR])
        self.assertEqual(leaves(two, [(0, FAR), (0, FAR)], [(0, 7)]), [0, 2])
        self.assertEqual(leaves(([1, 1], [([[-3, 5]], [0])]), [(0, FAR), (0, FAR)], [(-10, 5 * FAR)]), [4, 0])
        odd = ([2, 1], [([[0, 0]], [0]), ([[0, 7]], [0])])
        self.assertEqual(leaves(odd, [(-4, FAR), (-FAR, FAR)], [(-FAR, 13)]), [-3, -FAR])
        self.assertEqual(leaves(odd, [(-4, FAR), (-5, FAR)], [(-FAR, 13)]), [-3, 2])
        self.assertEqual(leaves(other=[(0, 12)], box=[(0, 10)], form=FIVE), [8])
        chance = random.Random(712)
        for _ in range(60):
            form = some_results(chance, [2, 3], 1, 20)
            box = [(-FAR, FAR), (0, FAR)]
            [(low, high)] = hull(form, box)
            edge = chance.randint(0, 200)
            state = leaves(form, box, [(low, high - edge - 1)])
            self.assertGreater(form_at(form, state)[0], high - edge - 1)
            self.assertTrue(is_in(state, box))
            _, first = greatest_of(form, 0, box)
            self.assertLessEqual(state, first)
            self.assertIsNone(leaves(form, box, [(low, high)]))

    def test_leaving(self):
        chance = random.Random(713)
        found = set()
        for moduli in LOTS * 12:
            forms = [some_calm_map(chance, moduli) for _ in range(chance.randint(1, 3))]
            box = some_box(chance, len(moduli), [0, 70, 9, 4, 3][len(moduli)])
            if chance.random() < 0.5:
                box = [(-9, 9)] * len(moduli) if len(moduli) < 3 else [(-2, 2)] * len(moduli)
            right = None
            for index, form in enumerate(forms):
                out = [state for state in states_of(box) if not is_in(form_at(form, state), box)]
                if out and right is None:
                    right = (index, out[0])
            self.assertEqual(leaving(forms, box), right)
            found.add(None if right is None else right[0])
        self.assertLessEqual({None, 0, 1}, found)
        self.assertEqual(leaving([HALF], [(0, 3)]), (0, [3]))
        self.assertEqual(leaving(box=[(0, 6)], forms=[NIGHT]), None)
        self.assertEqual(leaving([NIGHT, FIVE], [(-FAR, FAR)]), (1, [FAR - 4]))
        self.assertEqual(leaving([([1], [([[1]], [0])])], [(4, 4)]), None)


class TestCounts(unittest.TestCase):
    def test_few_states(self):
        chance = random.Random(721)
        for moduli in LOTS * 5:
            form = some_results(chance, moduli, chance.randint(1, 2), chance.choice([0, 1, 5, 100]))
            box = some_box(chance, len(moduli), [0, 70, 9, 4, 3][len(moduli)])
            lots = [form_at(form, state) for state in states_of(box)]
            results = len(lots[0])
            for result in range(results):
                self.assertEqual(total(form, result, box), sum(lot[result] for lot in lots))
            modulus = chance.choice([1, 2, 3])
            if math.prod(math.lcm(modulus, one) for one in moduli) > 600:
                continue
            for rests in all_rests([modulus] * results):
                right = sum([one % modulus for one in lot] == list(rests) for lot in lots)
                self.assertEqual(how_many(form, box, modulus, list(rests)), right)

    def test_great_boxes(self):
        chance = random.Random(722)
        for moduli in [[1], [2], [3], [1, 1], [2, 3], [1, 1, 1], [1] * 4]:
            form = some_results(chance, moduli, 1, 100)
            box = [(chance.randint(-FAR, 0), chance.randint(0, FAR)) for _ in moduli]
            states = math.prod(high - low + 1 for low, high in box)
            counts = [how_many(form, box, 4, [rest]) for rest in range(4)] if len(moduli) < 4 else [states]
            self.assertEqual(sum(counts), states)
            # A box is cut in two, or one longer: sums and counts are those of the parts.
            low, high = box[0]
            middle = chance.randint(low, high - 1)
            parts = [[(low, middle)] + box[1:], [(middle + 1, high)] + box[1:]]
            self.assertEqual(total(form, 0, box), sum(total(form, 0, part) for part in parts))
            self.assertEqual(how_many(form, box, 3, [1]), sum(how_many(form, part, 3, [1]) for part in parts))
        self.assertEqual(total(FIVE, 0, [(1, FAR)]), 500000005500000000)
        self.assertEqual(total(FIVE, 0, [(-FAR, FAR)]), 5 * (2 * FAR + 1))
        self.assertEqual(how_many(FIVE, [(-FAR, FAR)], 2, [0]), FAR)
        self.assertEqual(how_many(FIVE, [(-FAR, FAR)], 1, [0]), 2 * FAR + 1)
        self.assertEqual(how_many(rests=[0], modulus=2, box=[(0, 13)], form=NIGHT), 8)
        self.assertEqual(total(box=[(0, 13)], result=0, form=NIGHT), 42)
        same = ([1, 1], [([[1, 0], [0, 1]], [0, 0])])
        self.assertEqual(how_many(same, [(1, FAR), (1, FAR)], 10, [3, 0]), FAR * FAR // 100)
        self.assertEqual(how_many(FIVE, [(7, 7)], 600, [12]), 1)
        self.assertEqual(how_many(FIVE, [(7, 7)], 600, [13]), 0)


class TestGrown(unittest.TestCase):
    def right(self, forms, box, rounds):
        """The box, widened state by state, None if it is too great for that or not there in time."""
        for _ in range(rounds + 1):
            states = [form_at(form, state) for form in forms for state in states_of(box)]
            wider = [(min([low] + [state[place] for state in states]), max([high] + [state[place] for state in states]))
                     for place, (low, high) in enumerate(box)]
            if wider == box:
                return box
            box = wider
        return None

    def test_made_up(self):
        chance = random.Random(731)
        found = {}
        for moduli in [[1], [2], [7], [1, 1], [2, 3], [1, 1, 1], [2, 1, 2]] * 12:
            forms = [some_calm_map(chance, moduli) for _ in range(chance.randint(1, 2))]
            box = some_box(chance, len(moduli), [0, 10, 5, 2][len(moduli)])
            for rounds in range(5):
                made = grown(forms, box, rounds)
                self.assertEqual(made, self.right(forms, box, rounds))
                if made is not None:
                    self.assertIsNone(leaving(forms, made))
                    self.assertEqual(grown(forms, box, 40), made)
                found[None if made is None else rounds] = True
        self.assertLessEqual({None, 0, 1, 2}, set(found))

    def test_least_kept_box(self):
        """No less box that holds the first one is kept."""
        chance = random.Random(732)
        for moduli in [[1], [3], [2, 1]] * 10:
            forms, box = [some_calm_map(chance, moduli)], some_box(chance, len(moduli), 3)
            made = grown(forms, box, 40)
            if made is not None:
                sides = [[(low, high) for low in range(least, first + 1) for high in range(last, most + 1)]
                         for (least, most), (first, last) in zip(made, box)]
                for other in itertools.product(*sides):
                    self.assertEqual(leaving(forms, list(other)) is None and list(other) != made
                                     and all(a >= b for (a, _), (b, _) in zip(other, made)), False)

    def test_edges(self):
        self.assertEqual(grown([HALF], [(0, 3)], 1), [(0, 4)])
        self.assertIsNone(grown([HALF], [(0, 3)], 0))
        self.assertEqual(grown([HALF], [(0, 4)], 0), [(0, 4)])
        self.assertIsNone(grown([FIVE], [(0, 3)], 40))
        self.assertEqual(grown(rounds=40, box=[(-FAR, FAR)], forms=[NIGHT]), [(-FAR, FAR)])
        self.assertEqual(grown([([1], [([[-1]], [0])])], [(-FAR, 3)], 1), [(-FAR, FAR)])
        step = ([1, 1], [([[0, 0], [1, 0]], [0, 1])])
        self.assertEqual(grown([step], [(-FAR, FAR), (0, 0)], 2), [(-FAR, FAR), (-FAR + 1, FAR + 1)])
        # One that grows by one in each round, up to the last one.
        clock = ([42], [([[0]], [min(rest + 1, 41)]) for rest in range(42)])
        self.assertEqual(grown([clock], [(1, 1)], 40), [(1, 41)])
        self.assertIsNone(grown([clock], [(0, 0)], 40))
        self.assertIsNone(grown([clock], [(1, 1)], 39))
        box = [(0, 4)]
        found = grown([HALF], box, 0)
        found.append(1)
        self.assertEqual(box, [(0, 4)])
        self.assertIsNone(grown([([1], [([[100]], [100])])], [(-FAR, FAR)], 40))


class TestOfScripts(unittest.TestCase):
    def test_boxes_of_scripts(self):
        for chance, accounts, scripts, script in cases(741, 150, [[1, 2], [2, 3], [4]], 3):
            house = House(accounts, scripts)
            form, formula = map_of(house, script), some_formula(chance, accounts, [2, 3], 2)
            question = form_of(house, [formula])
            if math.prod(form[0]) > 600 or math.prod(question[0]) > 600:
                continue
            box = some_box(chance, len(accounts), 3)
            states = states_of(box)
            behind = [run(house, script, state) for state in states]
            self.assertEqual(hull(form, box), [(min(column), max(column)) for column in zip(*behind)])
            out = [state for state, then in zip(states, behind) if not is_in(then, box)]
            self.assertEqual(leaving([form], box), (0, out[0]) if out else None)
            self.assertEqual(total(question, 0, box), sum(value(house, formula, state) for state in states))
            if math.prod(2 * one for one in question[0]) <= 600:
                odd = sum(value(house, formula, state) % 2 for state in states)
                self.assertEqual(how_many(question, box, 2, [1]), odd)

    def test_kept_sums(self):
        chance = random.Random(742)
        done = 0
        for moduli in [[1, 1], [2, 1], [1, 1, 1], [2, 2]] * 10:
            form = some_keeping_map(chance, moduli, [[chance.randint(-2, 2) for _ in moduli]], 2)
            for weights in kept([form]):
                # What is summed up so is the same in all: so it comes as far behind the map as ahead of it.
                box = some_box(chance, len(moduli), 5)
                ahead = ([1] * len(moduli), [([weights], [0])])
                behind = (form[0], [([[sum(weight * row[place] for weight, row in zip(weights, matrix))
                                       for place in range(len(moduli))]],
                                     [sum(weight * amount for weight, amount in zip(weights, amounts))])
                                    for matrix, amounts in form[1]])
                self.assertEqual(hull(behind, box), hull(ahead, box))
                self.assertEqual(total(behind, 0, box), total(ahead, 0, box))
                done += 1
        self.assertGreater(done, 10)

    def test_times_beside_boxes(self):
        """In a box that a map keeps, all comes round; and what comes of it stays in the box at all times."""
        chance = random.Random(743)
        done = 0
        for moduli in [[1], [4], [2, 2], [1, 1], [1, 1, 1]] * 10:
            form, box = some_calm_map(chance, moduli), some_box(chance, len(moduli), 2)
            made = grown([form], box, 10)
            if made is not None:
                for times in (2, 3):
                    self.assertIsNone(leaving([power(form, times)], made))
                    self.assertTrue(all(low <= one and other <= high for (low, high), (one, other)
                                        in zip(made, hull(power(form, times), box))))
                done += 1
        self.assertGreater(done, 10)
        wide = [(0, 6)]
        for state in states_of(wide):
            early, first, length, found = times_when(NIGHT, state, [1], 7, 6)
            self.assertEqual((early, first, length, found), ([], 0, 7, [6 - state[0]]))
        self.assertEqual(how_many(power(NIGHT, 3), wide, 7, [6]), 1)

    def test_moduli_told_in_any_way(self):
        chance = random.Random(744)
        for moduli in ([1], [2], [2, 3]) * 4:
            form, box = some_form(chance, moduli, 3), some_box(chance, len(moduli), 9)
            wide = told_wider(form, [2] * len(moduli))
            self.assertEqual(hull(wide, box), hull(form, box))
            self.assertEqual(total(wide, 0, box), total(form, 0, box))
            self.assertEqual(leaving([wide], box), leaving([form], box))
            before = str(wide)
            spoil(hull(wide, box))
            self.assertEqual(str(wide), before)
