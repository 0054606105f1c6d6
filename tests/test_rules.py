"""Promise 4 of reports.py: rules, and promise 5 as far as they tell on."""

import random
import unittest

from accountmaps.maps import joined, least
from accountmaps.reports import judge_rule, rule, told
from accountmaps.ruling import ruled_with
from accountmaps.spots import spots_of
from accountmaps.tables import table_of
from tests.helping import all_rests, are_apart, form_at, is_least, some_results, spoil, states_for, states_in_order
from tests.helping import told_wider
from tests.test_reports import SAME, TWICE, alike_moduli, clock, stacked

LOTS = [[1], [2], [3], [4], [5], [6], [1, 1], [2, 1], [2, 3], [1, 6], [2, 2], [1, 1, 1], [2, 1, 3], [1, 5, 1]]


def small_report(chance, moduli, results):
    """A report as `rule` takes it."""
    pieces = []
    for _ in all_rests(moduli):
        matrix = [[chance.randint(-3, 3) for _ in moduli] for _ in range(results)]
        pieces.append((matrix, [chance.randint(-20, 20) for _ in range(results)]))
    return list(moduli), pieces


def seen_in(reports, state):
    return [amount for report in reports for amount in form_at(report, state)]


def rests_bar(report, question, modulus, many):
    """Whether there is no rule with this one modulus, as states near nought show: at some rest no line goes through
    all that a report with one result sees and the question asks."""
    lots = {}
    for state in states_in_order(len(report[0]), many):
        seen, asked = form_at(report, state)[0], form_at(question, state)[0]
        lots.setdefault(seen % modulus, {}).setdefault(seen, set()).add(asked)
    for lot in lots.values():
        if any(len(asked) > 1 for asked in lot.values()):
            return True
        points = sorted((seen, min(asked)) for seen, asked in lot.items())
        for (a, b), (c, d) in zip(points, points[1:]):
            first = points[0]
            if (d - b) % (c - a) or (d - first[1]) * (c - a) != (d - b) * (c - first[0]):
                return True
    return False


class TestRules(unittest.TestCase):
    def check(self, reports, question):
        """Whether there is a rule; if so, it must be right."""
        made = rule(reports, question)
        if made is None:
            return False
        self.assertTrue(told(reports, question))
        self.assertTrue(made == least(made) and are_apart(made))
        self.assertTrue(len(made[1]) > 100 or is_least(made))
        self.assertEqual(len(made[0]), len(seen_in(reports, [0] * len(question[0]))))
        self.assertTrue(judge_rule(reports, question, made))
        chance = random.Random(401)
        near = states_in_order(len(question[0]), [0, 30, 5, 2][len(question[0])])
        for state in near + states_for(chance, len(question[0]), 20, 10 ** 9):
            self.assertEqual(form_at(made, seen_in(reports, state)), form_at(question, state))
        return True

    def test_where_there_is_one(self):
        chance = random.Random(402)
        for moduli in LOTS * 6:
            results = chance.randint(1, 2)
            if results == 2 and chance.random() < 0.5:
                reports = [small_report(chance, moduli, 1), small_report(chance, moduli, 1)]
            else:
                reports = [small_report(chance, moduli, results)]
            ruled = some_results(chance, chance.choice([[1], [2], [3], [4]]) if results == 1 else
                                 chance.choice([[1, 1], [2, 1], [1, 3], [2, 2]]), chance.randint(1, 2), 5)
            question = joined(stacked(reports), ruled)
            if len(all_rests(question[0])) <= 60:
                self.assertTrue(self.check(reports, question))
                self.assertLessEqual(len(rule(reports, question)[1]), len(ruled[1]))
                self.assertTrue(judge_rule(reports, question, ruled))
                self.assertTrue(judge_rule(reports, question, told_wider(ruled, [2] * results)))

    def test_of_one_result_tried_with_many_moduli(self):
        chance = random.Random(403)
        found = {True: 0, False: 0}
        for _ in range(250):
            moduli = [chance.randint(1, 6)]
            report = small_report(chance, moduli, 1)
            question = some_results(chance, moduli, 1, chance.choice([1, 2]))
            if chance.random() < 0.5:
                ways = [(chance.randint(-1, 1), chance.choice([1, 1, 2, 3])) for _ in report[1]]
                question = moduli, [([[way * matrix[0][0] // part]], [way * amounts[0] // part])
                                    for (matrix, amounts), (way, part) in zip(report[1], ways)]
            if told([report], question):
                right = self.check([report], question)
                found[right] += 1
                if not right:
                    for modulus in list(range(1, 31)) + [36, 72]:
                        self.assertTrue(rests_bar(report, question, modulus, 3 * modulus * moduli[0]))
        self.assertGreater(min(found.values()), 20)

    def test_as_rests_settle_it(self):
        self.assertTrue(self.check([TWICE], clock(2)))
        self.assertEqual(rule([TWICE], clock(2))[0], [4])
        self.assertTrue(self.check([([1], [([[3]], [1])])], clock(5)))
        self.assertTrue(self.check([clock(6)], clock(3)))
        self.assertTrue(self.check([SAME], clock(60)))
        self.assertTrue(self.check([clock(2), clock(3)], clock(6)))
        self.assertTrue(self.check([([1], [([[2]], [0])]), ([1], [([[3]], [0])])], SAME))
        for wrong in ([TWICE], [([1], [([[-3]], [1])])], [([1], [([[2], [-2]], [1, 3])])]):
            self.assertTrue(told(wrong, SAME))
            self.assertFalse(self.check(wrong, SAME))
        # What is told by one half of what is seen alone must be so in whole numbers, too.
        even = ([2], [([[1]], [0]), ([[2]], [1])])
        self.assertTrue(told([even], SAME))
        self.assertFalse(self.check([even], SAME))
        self.assertTrue(self.check([even], ([2], [([[1]], [0]), ([[4]], [0])])))

    def test_lines_that_meet_and_lines_that_do_not(self):
        # Two lines that meet in one thing seen: a rule must go along both, with whole numbers.
        cross = ([2, 1], [([[1, 0], [1, 0]], [0, 0]), ([[1, 0], [-1, 0]], [-1, 1])])
        first, sum_of = ([1, 1], [([[1, 0]], [0])]), ([2, 1], [([[1, 0]], [0]), ([[0, 0]], [0])])
        self.assertEqual(told([cross], first), self.check([cross], first))
        self.assertTrue(told([cross], sum_of))
        self.assertFalse(self.check([cross], sum_of))
        # The same two lines, moved so that they never meet.
        apart = ([2, 1], [([[1, 0], [1, 0]], [0, 0]), ([[1, 0], [-1, 0]], [0, 0])])
        self.assertTrue(self.check([apart], sum_of))
        # Three lines through one thing seen, of which any two have a piece together but not all three.
        for first, second in ((0, 0), (5, -7), (-20, 16)):
            meeting = ([3], [([[1], [0]], [first, second]), ([[0], [1]], [first, second - 1]),
                             ([[1], [1]], [first - 2, second - 2])])
            for often in (2, 3):
                asks = ([3], [([[1]], [0]), ([[1]], [-1]), ([[often]], [-2 * often])])
                self.assertTrue(told([meeting], asks))
                self.assertEqual(self.check([meeting], asks), often == 2)
        # The first line meets both others, but these do not meet: so all three need not have a piece together.
        for first, second in ((0, 0), (5, -7), (-20, 16), (1, 1)):
            parted = ([3], [([[1], [0]], [first, second]), ([[0], [1]], [first, second - 1]),
                            ([[2], [2]], [first - 1, second - 4])])
            for often in (2, 3, 5):
                asks = ([3], [([[1]], [0]), ([[1]], [-1]), ([[2 * often]], [3 - 4 * often])])
                self.assertTrue(self.check([parted], asks))
                self.assertEqual(rule([parted], asks)[0], [1, 1] if often == 2 else [2, 1])

    def test_lines_with_more_accounts(self):
        # The same lines, each by an account of its own: what is seen in one grows by the others, too.
        for first, second in ((0, 0), (-3, 11)):
            three = ([3, 1], [([[1, 3], [0, 0]], [first, second]), ([[0, 0], [1, 3]], [first, second - 1]),
                              ([[1, 3], [1, 3]], [first - 2, second - 2])])
            for often in (2, 3):
                asks = ([3, 1], [([[1, 3]], [0]), ([[1, 3]], [-1]), ([[often, 3 * often]], [-2 * often])])
                self.assertTrue(told([three], asks))
                self.assertEqual(self.check([three], asks), often == 2)

    def test_points(self):
        points = ([6], [([[0], [0]], list(point)) for point in ((0, 0), (20, -20), (3, 5), (3, -5), (-20, 7), (1, 1))])
        self.assertTrue(self.check([points], clock(6)))
        self.assertTrue(self.check([([5], [([[0]], [one]) for one in (-20, 20, 0, 1, 7)])], clock(5)))
        self.assertFalse(self.check([([2], [([[0]], [4]), ([[0]], [4])])], clock(2)))
        self.assertTrue(self.check([([2], [([[0]], [4]), ([[0]], [4])])], ([1], [([[0], [0]], [-3, 10 ** 9])])))

    def test_not_told(self):
        for reports, question in (([clock(2)], SAME), ([clock(6)], clock(4)), ([([1, 1], [([[1, 1]], [0])])],
                                                                              ([1, 1], [([[1, 0]], [0])]))):
            self.assertIsNone(rule(reports, question))

    def test_moduli_that_are_great(self):
        """Where lines lie close to one another, a rule must have great moduli: but it is found."""
        lots = [([([[3], [2]], [13, -17]), ([[-3], [-2]], [13, 16]), ([[2], [3]], [-10, -12]), ([[-1], [3]], [4, 4]),
                  ([[3], [0]], [-11, -12]), ([[-1], [0]], [-13, 4])], [(5, 1), (-3, 3), (5, -3), (-4, -3), (3, 0), (1, 1)]),
                ([([[1], [1]], [-9, 15]), ([[-2], [0]], [-18, 16]), ([[1], [-2]], [4, 17]), ([[-1], [2]], [-15, -16]),
                  ([[-3], [2]], [-12, 12])], [(-2, -2), (0, 0), (1, 3), (-3, -2), (2, -3)]),
                ([([[-3], [-3]], [14, -15]), ([[3], [1]], [-6, -9]), ([[-2], [-2]], [1, -6]), ([[-2], [3]], [3, -7]),
                  ([[0], [0]], [-9, -1])], [(0, 2), (-3, 3), (0, 1), (2, 0), (0, -2)])]
        for pieces, asked in lots:
            report = ([len(pieces)], pieces)
            question = ([len(pieces)], [([[often]], [more]) for often, more in asked])
            self.assertTrue(self.check([report], question))
            made = rule([report], question)
            self.assertGreater(len(made[1]), 600)
            # None of the moduli can be divided.
            for place, modulus in enumerate(made[0]):
                for prime in (2, 3, 5, 7, 11):
                    if modulus % prime == 0:
                        less = made[0][:place] + [modulus // prime] + made[0][place + 1:]
                        self.assertIsNone(ruled_with(spots_of(table_of(report), table_of(question))[1], less))


class TestJudgeRule(unittest.TestCase):
    def test_of_all_and_of_nothing_else(self):
        chance = random.Random(411)
        found = {True: 0, False: 0}
        for moduli in LOTS * 6:
            reports = alike_moduli([some_results(chance, moduli, chance.randint(1, 2), chance.choice([1, 2, 100]))
                                    for _ in range(chance.randint(1, 2))], moduli)
            looks = stacked(reports)
            many = len(looks[1][0][1])
            rests = chance.choice([[1] * many, [2] + [1] * (many - 1), [3] * many if many < 3 else [2] * many])
            ruled = some_results(chance, rests, chance.randint(1, 2), 2)
            question = joined(looks, ruled)
            if len(all_rests(question[0])) > 60:
                continue
            self.assertTrue(judge_rule(reports, question, ruled))
            matrix, amounts = ruled[1][chance.randrange(len(ruled[1]))]
            if chance.random() < 0.5:
                amounts[chance.randrange(len(amounts))] += chance.choice([-1, 1, 6])
            else:
                chance.choice(matrix)[chance.randrange(many)] += chance.choice([-1, 1])
            states = states_in_order(len(moduli), [0, 40, 8, 4][len(moduli)])
            right = all(form_at(ruled, seen_in(reports, state)) == form_at(question, state) for state in states)
            self.assertEqual(judge_rule(reports, question, ruled), right)
            found[right] += 1
        self.assertGreater(min(found.values()), 3)

    def test_of_what_never_comes(self):
        for free in range(-3, 4):
            ruled = ([2], [([[free]], [-4 * free]), ([[free]], [7])])
            self.assertTrue(judge_rule([([1], [([[0]], [4])])], ([1], [([[0]], [0])]), ruled))
            self.assertEqual(judge_rule([([1], [([[0]], [5])])], ([1], [([[0]], [0])]), ruled), 5 * free + 7 == 0)
        self.assertTrue(judge_rule([([1], [([[2]], [10])])], TWICE, ([1], [([[1]], [-10])])))
        self.assertFalse(judge_rule([TWICE], SAME, ([1], [([[1]], [0])])))

    def test_with_great_moduli(self):
        # All four accounts turn together, and the rule has sixty rests: no form for both is ever laid out.
        sums, rests = ([1] * 4, [([[1, 1, 1, 1]], [0])]), clock(60)
        self.assertFalse(judge_rule([sums], ([1] * 4, [([[0] * 4], [0])]), rests))
        self.assertTrue(judge_rule([sums], ([1] * 4, [([[2] * 4], [3])]), told_wider(([1], [([[2]], [3])]), [60])))
        shifted = ([60], [([[2]], [3 if rest != 59 else 4]) for rest in range(60)])
        self.assertFalse(judge_rule([sums], ([1] * 4, [([[2] * 4], [3])]), shifted))
        self.assertTrue(judge_rule([([1] * 4, [([[60] * 4], [0])])], ([1] * 4, [([[120] * 4], [3])]), shifted))

    def test_by_name(self):
        made = rule(question=clock(2), reports=[TWICE])
        self.assertTrue(judge_rule(told_rule=made, question=clock(2), reports=[TWICE]))
        spoil(made)
        self.assertEqual(rule([TWICE], clock(2)), rule(reports=[TWICE], question=clock(2)))
        self.assertEqual((TWICE, clock(2)), (([1], [([[2]], [0])]), ([2], [([[0]], [0]), ([[0]], [1])])))


class TestRulesTellOn(unittest.TestCase):
    def test_one_behind_the_other(self):
        chance = random.Random(421)
        done = 0
        for moduli in ([1], [2], [3], [1, 1], [2, 1], [2, 3], [1, 1, 1]) * 6:
            report = small_report(chance, moduli, 1)
            second = joined(report, some_results(chance, [chance.choice([1, 2])], 1, 3))
            third = joined(second, some_results(chance, [chance.choice([1, 3])], 2, 3))
            wholes = [len(all_rests(second[0])), len(all_rests(third[0]))]
            small = all(abs(part) <= 3 for matrix, _ in second[1] for row in matrix for part in row)
            if wholes[0] <= 6 and wholes[1] <= 60 and small:
                first, then = rule([report], second), rule([second], third)
                self.assertTrue(judge_rule([report], third, joined(first, then)))
                self.assertIsNotNone(rule([report], third))
                done += 1
        self.assertGreater(done, 10)
