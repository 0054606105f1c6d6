"""Promises 1, 2, 3, 5 and 6 of reports.py: what is told, pairs, answers, least lots, and what tells on."""

import itertools
import random
import unittest

from accountmaps.deeds import form_of, run, value
from accountmaps.houses import House
from accountmaps.maps import joined, same_map
from accountmaps.reports import answers, fitting, judge_pair, least_lots, pair, rule, told
from tests.helping import are_apart, cases, form_at, some_form, some_formula, some_results, spoil, states_for
from tests.helping import states_in_order, told_wider

LOTS = [[1], [6], [60], [59], [1, 1], [2, 1], [2, 3], [4, 15], [1, 1, 1], [2, 1, 3], [2, 2, 3], [1] * 4, [2, 1, 1, 1]]
BOTH, APART, FIRST = ([1, 1], [([[1, 1]], [0])]), ([1, 1], [([[1, -1]], [0])]), ([1, 1], [([[1, 0]], [0])])
SAME, TWICE = ([1], [([[1]], [0])]), ([1], [([[2]], [0])])


def clock(modulus):
    """The report of the rest of one account."""
    return [modulus], [([[0]], [rest]) for rest in range(modulus)]


def is_pair(reports, question, one, other):
    alike = all(form_at(report, one) == form_at(report, other) for report in reports)
    return alike and form_at(question, one) != form_at(question, other)


def some_reports(chance, moduli, most=3):
    """One to three reports, some of which come round, some of which see all, and some whatever."""
    found = []
    for _ in range(chance.randint(1, most)):
        own = [chance.choice([1, modulus]) for modulus in moduli]
        found.append(some_results(chance, own, chance.randint(1, 2), chance.choice([0, 1, 1, 2, 100])))
    return found


def stacked(reports):
    """One report of all results of reports, all told by the same moduli."""
    moduli, _ = reports[0]
    pieces = []
    for lot in zip(*[report[1] for report in reports]):
        pieces.append(([row for matrix, _ in lot for row in matrix], [amount for _, amounts in lot for amount in amounts]))
    return list(moduli), pieces


def alike_moduli(reports, moduli):
    """The reports, all told by some moduli, each a multiple of their own."""
    return [told_wider(report, [a // b for a, b in zip(moduli, report[0])]) for report in reports]


class TestTold(unittest.TestCase):
    def check(self, reports, question):
        found = pair(reports, question)
        self.assertEqual(told(reports, question), found is None)
        if found is None:
            many = len(question[0])
            seen = {}
            for state in states_in_order(many, [0, 20, 4, 2, 1][many]):
                key = str([form_at(report, state) for report in reports])
                self.assertEqual(seen.setdefault(key, form_at(question, state)), form_at(question, state))
        else:
            self.assertTrue(isinstance(found, tuple) and len(found) == 2 and are_apart(found))
            self.assertTrue(is_pair(reports, question, *found))
            self.assertTrue(judge_pair(reports, question, found))
        return found is None

    def test_made_up(self):
        chance = random.Random(301)
        lots = {True: 0, False: 0}
        for moduli in LOTS * 12:
            reports = some_reports(chance, moduli)
            own = [chance.choice([1, modulus]) for modulus in moduli]
            lots[self.check(reports, some_results(chance, own, chance.randint(1, 2), chance.choice([0, 1, 100])))] += 1
        self.assertGreater(min(lots.values()), 10)

    def test_what_is_made_of_results_is_told(self):
        chance = random.Random(302)
        for moduli in LOTS * 4:
            reports = alike_moduli(some_reports(chance, moduli), moduli)
            looks = stacked(reports)
            question = joined(looks, some_results(chance, [1] * len(looks[1][0][1]), 2, 5))
            self.assertTrue(self.check(reports, question))
            rests = [chance.choice([1, 1, 2]) for _ in looks[1][0][1]]
            rested = joined(looks, some_results(chance, rests, 1, 2))
            if max(rested[0]) <= 2 and len(rested[0]) <= 2:
                self.assertTrue(self.check(reports, rested))

    def test_by_rests_of_their_own(self):
        self.assertTrue(self.check([clock(4), clock(15)], clock(60)))
        self.assertTrue(self.check([clock(12)], clock(4)))
        self.assertFalse(self.check([clock(12)], clock(5)))
        self.assertFalse(self.check([clock(4), clock(6)], clock(24)))
        self.assertTrue(self.check([clock(4), clock(6)], clock(12)))
        self.assertFalse(self.check([clock(60)], SAME))
        self.assertTrue(self.check([SAME], clock(60)))
        self.assertTrue(self.check([TWICE], SAME))
        self.assertTrue(self.check([TWICE], clock(7)))

    def test_far_apart(self):
        # States look alike only far from nought.
        far = ([2], [([[1]], [0]), ([[1]], [10 ** 6 + 1])])
        self.assertFalse(self.check([far], SAME))
        self.assertFalse(self.check([([2], [([[2]], [0]), ([[2]], [10 ** 6 + 2])])], clock(2)))
        self.assertTrue(self.check([([2], [([[2]], [0]), ([[2]], [10 ** 6 + 1])])], SAME))
        self.assertFalse(self.check([([1, 1], [([[97, 100]], [3])])], FIRST))
        self.assertFalse(self.check([([1] * 4, [([[100, 99, 98, 97], [96, -95, 94, -93], [1, 2, 3, 5]], [0, 0, 0])])],
                                    ([1] * 4, [([[1, 0, 0, 0]], [0])])))
        self.assertTrue(self.check([([1] * 4, [([[100, 99, 98, 97], [96, -95, 94, -93], [1, 2, 3, 5], [0, 0, 1, 0]],
                                               [0] * 4)])], ([1] * 4, [([[1, 0, 0, 0]], [0])])))

    def test_constant_questions(self):
        for report in (clock(3), SAME, ([1], [([[0]], [5])])):
            self.assertTrue(self.check([report], ([1], [([[0], [0]], [7, 8])])))
        self.assertFalse(self.check([([1], [([[0]], [5])])], clock(2)))

    def test_told_with_multiples_of_moduli(self):
        chance = random.Random(303)
        for moduli in ([2], [3], [2, 1], [1, 1, 2]):
            for _ in range(12):
                reports = some_reports(chance, moduli)
                question = some_results(chance, moduli, 1, 1)
                wide = [told_wider(report, [chance.choice([1, 2]) for _ in moduli]) for report in reports]
                self.assertEqual(self.check(wide, told_wider(question, [2] * len(moduli))), told(reports, question))

    def test_judge_pair(self):
        half = ([2], [([[1]], [0]), ([[1]], [1])])
        self.assertTrue(judge_pair([half], SAME, ([1], [2])))
        for wrong in (([2], [3]), ([2], [2]), ([], []), ([1], [2, 0]), ([1, 0], [2]), ([1, 0], [2, 0]), ([1], [])):
            self.assertFalse(judge_pair([half], SAME, wrong))
        chance = random.Random(304)
        for moduli in LOTS * 3:
            reports, question = some_reports(chance, moduli, 2), some_results(chance, moduli, 1, 1)
            states = states_for(chance, len(moduli), 3, 4)
            for one, other in itertools.product(states, states):
                right = is_pair(reports, question, one, other)
                self.assertEqual(judge_pair(reports, question, (one, other)), right)

    def test_by_name_and_lists_stay(self):
        reports, question = [[[2], [([[1]], [0]), ([[1]], [1])]]], SAME
        reports = [tuple(report) for report in reports]
        found = pair(question=question, reports=reports)
        self.assertTrue(judge_pair(told_pair=found, question=question, reports=reports))
        self.assertFalse(told(question=question, reports=reports))
        spoil(found)
        self.assertEqual(reports, [([2], [([[1]], [0]), ([[1]], [1])])])
        self.assertTrue(is_pair(reports, question, *pair(reports, question)))


class TestAnswers(unittest.TestCase):
    def check(self, reports, question, seen):
        found, fits = answers(reports, question, seen), fitting(reports, seen)
        self.assertEqual(fits is None, found == ("none",))
        self.assertTrue(are_apart(found))
        kind, *parts = found
        near = [state for state in states_in_order(len(question[0]), [0, 12, 4, 2, 1][len(question[0])])
                if [form_at(report, state) for report in reports] == seen]
        if fits is not None:
            near.append(fits)
        for state in near + (parts if kind == "open" else []):
            self.assertEqual([form_at(report, state) for report in reports], seen)
        if kind == "sure":
            self.assertEqual({str(form_at(question, state)) for state in near}, {str(parts[0])})
            self.assertIsInstance(parts[0], list)
        if kind == "open":
            self.assertTrue(is_pair(reports, question, *parts))
        if kind == "none":
            self.assertEqual(near, [])
        return kind

    def test_made_up(self):
        chance = random.Random(311)
        kinds = {"sure": 0, "open": 0, "none": 0}
        for moduli in LOTS * 8:
            reports, question = some_reports(chance, moduli), some_results(chance, moduli, chance.randint(1, 2), 1)
            for state in states_for(chance, len(moduli), 2, 10 ** 9):
                seen = [form_at(report, state) for report in reports]
                kind = self.check(reports, question, seen)
                self.assertNotEqual(kind, "none")
                self.assertTrue(kind == "sure" or not told(reports, question))
                if kind == "sure":
                    self.assertEqual(answers(reports, question, seen)[1], form_at(question, state))
                lot = chance.randrange(len(seen))
                seen[lot][chance.randrange(len(seen[lot]))] += chance.choice([-1, 1, 10 ** 6])
                kinds[self.check(reports, question, seen)] += 1
        self.assertGreater(min(kinds.values()), 10)

    def test_clocks_without_a_common_divisor(self):
        for rests in itertools.product(range(3), range(4), range(5)):
            seen = [[rest] for rest in rests]
            self.assertEqual(self.check([clock(3), clock(4), clock(5)], clock(60), seen), "sure")
            self.assertEqual(fitting([clock(3), clock(4), clock(5)], seen)[0] % 4, rests[1])
        self.assertEqual(self.check([clock(4), clock(6)], clock(12), [[1], [3]]), "sure")
        self.assertEqual(self.check([clock(4), clock(6)], clock(12), [[1], [2]]), "none")
        self.assertEqual(self.check([clock(4), clock(6)], clock(8), [[1], [3]]), "open")
        self.assertEqual(self.check([clock(4)], clock(2), [[4]]), "none")

    def test_as_the_head_says(self):
        self.assertEqual(answers([BOTH, APART], FIRST, [[5], [1]]), ("sure", [3]))
        self.assertEqual(answers([BOTH, APART], FIRST, [[5], [2]]), ("none",))
        self.assertEqual(fitting([BOTH, APART], [[5], [1]]), [3, 2])
        self.assertIsNone(fitting([BOTH, APART], [[5], [2]]))
        far = 10 ** 13
        self.assertEqual(fitting([BOTH, APART], [[far], [0]]), [far // 2, far // 2])
        self.assertEqual(answers([BOTH], ([1, 1], [([[2, 2]], [-1])]), [[-far]]), ("sure", [-2 * far - 1]))
        # It may be sure though the question is not told.
        zero = ([2], [([[0]], [0]), ([[1]], [0])])
        self.assertEqual(answers([zero], SAME, [[7]]), ("sure", [7]))
        self.assertEqual(answers([zero], SAME, [[0]])[0], "open")
        self.assertEqual(answers([zero], SAME, [[8]]), ("none",))

    def test_by_name(self):
        self.assertEqual(answers(seen=[[5], [1]], question=FIRST, reports=[BOTH, APART]), ("sure", [3]))
        self.assertEqual(fitting(seen=[[5], [1]], reports=[BOTH, APART]), [3, 2])
        seen = [[5], [1]]
        spoil(answers([BOTH, APART], FIRST, seen)[1])
        spoil(fitting([BOTH, APART], seen))
        self.assertEqual(seen, [[5], [1]])
        self.assertEqual(answers([BOTH, APART], FIRST, seen), ("sure", [3]))


class TestLeastLots(unittest.TestCase):
    def check(self, reports, question):
        lots = least_lots(reports, question)
        self.assertEqual(lots, sorted(lots))
        for size in range(len(reports) + 1):
            for lot in itertools.combinations(range(len(reports)), size):
                tells = any(set(less) <= set(lot) for less in lots)
                if lot:
                    self.assertEqual(told([reports[index] for index in lot], question), tells)
                else:
                    self.assertEqual(tells, told([([1] * len(question[0]), [([[0] * len(question[0])], [5])])], question))
                self.assertTrue(list(lot) not in lots or not any(set(less) < set(lot) for less in lots))
        self.assertTrue(are_apart(lots))
        return lots

    def test_made_up(self):
        chance = random.Random(321)
        unlike = set()
        for moduli in [[1], [12], [2], [2, 3], [1, 1], [4, 1], [2, 1, 1], [1, 1, 1], [1] * 4] * 8:
            reports = [report for _ in range(4) for report in some_reports(chance, moduli, 1)]
            reports = reports[:chance.randint(1, 4)]
            unlike.add(str(self.check(reports, some_results(chance, moduli, 1, chance.choice([0, 1])))))
        self.assertGreater(len(unlike), 5)

    def test_of_some_together(self):
        first, second, third = [([1] * 3, [([row], [0])]) for row in ([1, 0, 0], [0, 1, 0], [0, 0, 1])]
        two = ([1] * 3, [([[1, 1, 0]], [0])])
        self.assertEqual(self.check([first, second, third, two], two), [[0, 1], [3]])
        self.assertEqual(self.check([two, second, third, first], first), [[0, 1], [3]])
        self.assertEqual(self.check([first, first], first), [[0], [1]])
        self.assertEqual(self.check([second, third, two], two), [[2]])
        self.assertEqual(self.check([second, third], two), [])
        self.assertEqual(self.check([clock(2), clock(3), clock(4), clock(6)], clock(12)), [[1, 2], [2, 3]])

    def test_edges(self):
        constant = ([1, 1], [([[0, 0], [0, 0]], [5, -5])])
        self.assertEqual(least_lots([BOTH, APART], constant), [[]])
        self.assertEqual(least_lots([constant], constant), [[]])
        self.assertEqual(least_lots([BOTH], FIRST), [])
        self.assertEqual(least_lots(question=FIRST, reports=[BOTH, APART, FIRST]), [[0, 1], [2]])
        spoil(least_lots([BOTH], constant))
        self.assertEqual(least_lots([BOTH], constant), [[]])


class TestTellsOn(unittest.TestCase):
    def test_of_what_is_told(self):
        chance = random.Random(331)
        done = 0
        for moduli in [[1], [4], [2, 3], [1, 1], [1, 1, 1], [2, 1, 2], [1] * 4] * 12:
            reports = some_reports(chance, moduli, 2)
            seconds = [some_results(chance, moduli, chance.randint(1, 2), 1) for _ in range(2)]
            question = some_results(chance, moduli, 1, 1)
            if all(told(reports, second) for second in seconds) and told(seconds, question):
                self.assertTrue(told(reports, question))
                self.assertTrue(told([question] + reports, question))
                done += 1
            for second in seconds:
                self.assertTrue(told(reports + [second], second))
                self.assertTrue(not told(reports, question) or told([second] + reports, question))
        self.assertGreater(done, 5)

    def test_behind_a_map(self):
        chance = random.Random(332)
        for moduli in [[1], [4], [2, 2], [1, 1], [1, 1, 1], [1] * 4] * 8:
            reports = some_reports(chance, moduli, 2)
            question = joined(stacked(alike_moduli(reports, moduli)),
                              some_results(chance, [1] * sum(len(report[1][0][1]) for report in reports), 1, 3))
            form = some_form(chance, moduli, 1)
            self.assertTrue(told(reports, question))
            self.assertTrue(told([joined(form, report) for report in reports], joined(form, question)))

    def test_of_all_accounts(self):
        chance = random.Random(333)
        for moduli in LOTS:
            self.assertTrue(told([same_map(len(moduli))], some_results(chance, moduli, 3, 100)))


class TestOfHouses(unittest.TestCase):
    def test_reports_of_formulas(self):
        for chance, accounts, scripts, script in cases(341, 120, [[2, 3], [1, 4], [2]], 3):
            house = House(accounts, scripts)
            formulas = [some_formula(chance, accounts, [2, 3, 2], 2) for _ in range(3)]
            reports, question = [form_of(house, [one]) for one in formulas[:2]], form_of(house, formulas[2:])
            lcms = [max(a, b, c) * (2 if {a, b, c} >= {2, 3} else 1)
                    for a, b, c in zip(reports[0][0], reports[1][0], question[0])]
            whole = 1
            for part in lcms:
                whole *= part
            if whole > 60:
                continue
            state = run(house, script, [chance.randint(-50, 50) for _ in accounts])
            seen = [[value(house, one, state)] for one in formulas[:2]]
            kind, *parts = answers(reports, question, seen)
            self.assertNotEqual(kind, "none")
            fits = fitting(reports, seen)
            self.assertEqual([[value(house, one, fits)] for one in formulas[:2]], seen)
            if kind == "sure":
                self.assertEqual(parts, [[value(house, formulas[2], state)]])
            if told(reports, question):
                self.assertEqual(kind, "sure")
                made = rule(reports, question) if whole <= 6 else None
                if made is not None:
                    self.assertEqual(form_at(made, [one[0] for one in seen]), parts[0])
            else:
                one, other = pair(reports, question)
                for formula in formulas[:2]:
                    self.assertEqual(value(house, formula, one), value(house, formula, other))
                self.assertNotEqual(value(house, formulas[2], one), value(house, formulas[2], other))
