"""Promises 7, 8, 9, 10 and 20 of views.py: closing and views, looks along courses, and what they tell."""

import itertools
import math
import random
import unittest

from accountmaps.deeds import form_of, map_of
from accountmaps.houses import House
from accountmaps.kept import kept
from accountmaps.maps import alike, joined, least, same_map
from accountmaps.plans import fewest
from accountmaps.reports import answers, judge_rule, rule, told
from accountmaps.views import closes, depth, first_seen, judge_view, looked, view, wish
from tests.helping import all_rests, are_apart, cases, form_at, has_shape, some_calm_map, some_form, some_formula
from tests.helping import some_keeping_map, some_results, spoil, states_for, told_wider
from tests.test_reports import SAME, clock

FIVE, THIRD = ([1], [([[1]], [5])]), ([3], [([[1]], [0]), ([[1]], [1]), ([[1]], [0])])
SWAP, FIRST = ([1, 1], [([[0, 1], [1, 0]], [0, 0])]), ([1, 1], [([[1, 0]], [0])])


def courses(maps, most):
    """All courses of at most so many of some maps, by length and then as lists."""
    return [list(course) for many in range(most + 1) for course in itertools.product(range(maps), repeat=many)]


def behind_course(forms, course, state):
    for index in course:
        state = form_at(forms[index], state)
    return state


def spread(*forms):
    """What the common moduli of some forms multiply to."""
    return math.prod(math.lcm(*column) for column in zip(*[form[0] for form in forms]))


class TestClosing(unittest.TestCase):
    def check(self, report, form):
        behind = joined(form, report)
        right = told([report], behind)
        self.assertEqual(closes(report, form), right)
        return right

    def test_made_up(self):
        chance = random.Random(501)
        found = {True: 0, False: 0}
        for moduli in [[1], [2], [5], [2, 2], [1, 1], [3, 1], [1, 1, 1], [2, 1, 1], [1] * 4] * 14:
            form = some_form(chance, moduli, 1)
            report = some_results(chance, [chance.choice([1, modulus]) for modulus in moduli], chance.randint(1, 2), 1)
            if spread(report, joined(form, report)) <= 60:
                found[self.check(report, form)] += 1
        self.assertGreater(min(found.values()), 10)

    def test_as_the_head_says(self):
        self.assertTrue(self.check(clock(2), FIVE))
        self.assertFalse(self.check(clock(2), THIRD))
        self.assertFalse(self.check(FIRST, SWAP))
        self.assertTrue(self.check(([1, 1], [([[1, 1]], [0])]), SWAP))
        self.assertTrue(self.check(same_map(2), SWAP))
        self.assertTrue(closes(form=FIVE, report=clock(2)))


class TestView(unittest.TestCase):
    def check(self, report, form, moduli):
        made = view(report, form, moduli)
        if made is None:
            return False
        results = len(report[1][0][1])
        self.assertEqual(made[0], moduli)
        self.assertIsNot(made[0], moduli)
        self.assertTrue(has_shape(made, results, results) and are_apart(made))
        self.assertTrue(judge_view(report, form, made))
        self.assertTrue(judge_rule([report], joined(form, report), made))
        for state in states_for(random.Random(511), len(form[0]), 20, 10 ** 6):
            self.assertEqual(form_at(made, form_at(report, state)), form_at(report, form_at(form, state)))
        return True

    def test_where_there_is_one(self):
        """A map that does to the first accounts a map of its own closes by what is seen of these alone."""
        chance = random.Random(512)
        for moduli in [[1], [2], [3], [6], [1, 1], [2, 1], [2, 3], [1, 1, 1]] * 4:
            own = some_form(chance, moduli, 2)
            more = chance.randint(0, 1)
            pieces = []
            for matrix, amounts in own[1]:
                row = [chance.randint(-3, 3) for _ in range(len(moduli) + more)]
                pieces.append(([line + [0] * more for line in matrix] + [row] * more, amounts + [2] * more))
            form = (moduli + [1] * more, pieces)
            many = len(form[0])
            report = ([1] * many, [([[int(place == row) for place in range(many)] for row in range(len(moduli))],
                                    [chance.randint(0, 1) for _ in moduli])])
            self.assertTrue(self.check(report, form, moduli))
            self.assertTrue(self.check(report, form, [2 * modulus for modulus in moduli]))
            least_moduli = least(view(report, form, moduli))[0]
            for place, modulus in enumerate(least_moduli):
                if modulus > 1:
                    fewer = least_moduli[:place] + [1] + least_moduli[place + 1:]
                    self.assertFalse(self.check(report, form, fewer))

    def test_of_rests(self):
        self.assertTrue(self.check(clock(2), FIVE, [2]))
        # Of the results 0 and 1 alone, a line makes 1 and 0.
        self.assertTrue(self.check(clock(2), FIVE, [1]))
        self.assertFalse(self.check(clock(3), FIVE, [1]))
        self.assertTrue(self.check(clock(3), FIVE, [3]))
        self.assertTrue(self.check(clock(60), FIVE, [60]))
        self.assertFalse(self.check(clock(60), FIVE, [20]))
        self.assertIsNone(view(clock(2), THIRD, [2]))
        self.assertEqual(view(moduli=[4], form=FIVE, report=([1], [([[1]], [0])])), ([4], [([[1]], [5])] * 4))
        self.assertTrue(self.check(([1], [([[0]], [3])]), FIVE, [5]))
        self.assertTrue(self.check(([1], [([[1], [1], [0]], [3, 1, 4])]), FIVE, [1, 2, 3]))
        # What is seen twice is not halved in whole numbers: but behind this map it need not be.
        twice, day = ([1], [([[2]], [0])]), ([2], [([[1]], [0]), ([[1]], [1])])
        self.assertTrue(closes(twice, day))
        self.assertFalse(self.check(twice, day, [2]))
        self.assertTrue(self.check(twice, day, [4]))

    def test_none_if_none_has_these_moduli(self):
        chance = random.Random(513)
        found = {True: 0, False: 0}
        for _ in range(150):
            moduli = [chance.choice([1, 2, 3])]
            report, form = some_results(chance, moduli, 1, 3), some_form(chance, [chance.choice([1, moduli[0]])], 2)
            if not closes(report, form):
                self.assertIsNone(view(report, form, [60]))
            elif (made := rule([report], joined(form, report))) is not None:
                for modulus in range(1, 13):
                    right = self.check(report, form, [modulus])
                    self.assertTrue(right or modulus % made[0][0] != 0)
                    found[right] += 1
        self.assertGreater(min(found.values()), 10)

    def test_judge_view(self):
        self.assertTrue(judge_view(clock(2), FIVE, ([1], [([[-1]], [1])])))
        self.assertFalse(judge_view(clock(2), FIVE, ([1], [([[-1]], [0])])))
        self.assertTrue(judge_view(told_form=([1], [([[1]], [5])]), form=FIVE, report=SAME))
        self.assertTrue(judge_view(clock(2), FIVE, ([6], [([[0]], [1]), ([[0]], [0])] + [([[9]], [9])] * 4)))
        self.assertFalse(judge_view(clock(3), FIVE, ([6], [([[0]], [1]), ([[0]], [0])] + [([[9]], [9])] * 4)))
        chance = random.Random(514)
        for moduli in ([1], [2], [3, 1], [1, 1], [2, 2]) * 6:
            report, form = some_results(chance, moduli, 2, 1), some_form(chance, moduli, 1)
            other = some_results(chance, [chance.choice([1, 2]) for _ in range(2)], 2, 1)
            right = alike(joined(report, other), joined(form, report))
            self.assertEqual(judge_view(report, form, other), right)
            self.assertEqual(judge_view(told_wider(report, [2] * len(moduli)), form, told_wider(other, [1, 3])), right)


class TestLooks(unittest.TestCase):
    def test_looked(self):
        for moduli in ([1], [2], [2, 2], [1, 1], [1, 1, 1], [1] * 4):
            chance = random.Random(521)
            for many in (1, 2, 3):
                forms = [some_calm_map(chance, moduli) for _ in range(many)]
                report = some_results(chance, moduli, 2, 2)
                for deep in (0, 1, 2, 4 if many < 3 else 3):
                    found = looked(report, forms, deep)
                    told_courses = courses(many, deep)
                    self.assertEqual(len(found), len(told_courses))
                    self.assertTrue(are_apart(found))
                    for form, course in zip(found, told_courses):
                        self.assertEqual(form, least(form))
                        for state in states_for(chance, len(moduli), 2, 1000):
                            there = behind_course(forms, course, state)
                            self.assertEqual(form_at(form, state), form_at(report, there))

    def test_looked_of_houses(self):
        for chance, accounts, scripts, script in cases(522, 60, [[1, 2], [2]], 2):
            house = House(accounts, scripts)
            formula = some_formula(chance, accounts, [2], 1)
            scripts = [script, [("put", accounts[0], formula)]]
            forms, report = [map_of(house, one) for one in scripts], form_of(house, [formula])
            if spread(*forms, report, *looked(report, forms, 2)) <= 60:
                for look, course in zip(looked(forms=forms, report=report, deep=2), courses(2, 2)):
                    joined_up = [deed for index in course for deed in scripts[index]]
                    self.assertEqual(look, joined(map_of(house, joined_up), report))

    def test_deep_0(self):
        report = told_wider(clock(2), [3])
        self.assertEqual(looked(report, [FIVE], 0), [clock(2)])
        found = looked(report, [FIVE], 1)
        spoil(found)
        self.assertEqual(looked(report, [FIVE], 1), [clock(2), ([2], [([[0]], [1]), ([[0]], [0])])])

    def test_depth(self):
        chance = random.Random(523)
        unlike = set()
        for moduli in [[1], [2], [3], [2, 2], [1, 1], [1, 1, 1], [1] * 4, [2, 1, 1]] * 8:
            forms = [some_calm_map(chance, moduli) for _ in range(chance.randint(1, 2))]
            report = some_results(chance, [chance.choice([1, modulus]) for modulus in moduli], 1, 1)
            if chance.random() < 0.5:
                report = ([1] * len(moduli), [([[1] + [0] * (len(moduli) - 1)], [0])])
            looks = looked(report, forms, 4)
            if spread(*looks) > 60:
                continue
            lots = [len(courses(len(forms), deep)) for deep in range(5)]
            right = [all(told(looks[:lots[deep]], look) for look in looks[lots[deep]:lots[deep + 1]])
                     for deep in range(4)]
            for most in range(4):
                found = depth(report, forms, most)
                self.assertEqual(found, right.index(True) if True in right[:most + 1] else None)
                if found is not None:
                    self.assertTrue(all(told(looks[:lots[found]], look) for look in looks))
                unlike.add(found)
        self.assertEqual(unlike, {0, 1, 2, 3, None})

    def test_depth_of_a_round(self):
        around = ([1] * 4, [([[0, 1, 0, 0], [0, 0, 1, 0], [0, 0, 0, 1], [1, 0, 0, 0]], [0] * 4)])
        report = ([1] * 4, [([[1, 0, 0, 0]], [0])])
        self.assertEqual([depth(report, [around], most) for most in range(4)], [None, None, None, 3])
        self.assertEqual(depth(most=0, forms=[same_map(4), same_map(4)], report=report), 0)
        self.assertEqual(depth(FIRST, [SWAP], 3), 1)
        self.assertIsNone(depth(([1, 1], [([[1, 0]], [0])]), [([2, 1], [([[0, 1], [1, 0]], [0, 1])] * 2)], 0))

    def test_no_longer_course_parts_what_so_many_maps_do_not(self):
        chance = random.Random(524)
        done = 0
        for moduli in [[1], [2], [2, 2], [1, 1], [1, 1, 1]] * 6:
            forms = [some_calm_map(chance, moduli) for _ in range(2)]
            report = some_results(chance, moduli, 1, 1)
            if spread(*looked(report, forms, 4)) > 60:
                continue
            deep = depth(report, forms, 3)
            for one, other in itertools.product(states_for(chance, len(moduli), 3, 3), repeat=2):
                if deep is not None and first_seen(report, forms, one, other, deep) is None:
                    self.assertIsNone(first_seen(report, forms, one, other, 4))
                    done += 1
        self.assertGreater(done, 10)


class TestCourses(unittest.TestCase):
    def test_first_seen_and_wish(self):
        chance = random.Random(531)
        lengths = set()
        for moduli in [[1], [2], [3], [2, 2], [1, 1], [1, 1, 1], [1] * 4] * 12:
            forms = [some_calm_map(chance, moduli) for _ in range(chance.randint(1, 3))]
            report = some_results(chance, moduli, chance.randint(1, 2), 1)
            one, other = [[chance.randint(-2, 2) for _ in moduli] for _ in range(2)]
            most = chance.randint(0, 4)
            told_courses = courses(len(forms), most)
            right = [course for course in told_courses if form_at(report, behind_course(forms, course, one))
                     != form_at(report, behind_course(forms, course, other))]
            self.assertEqual(first_seen(report, forms, one, other, most), right[0] if right else None)
            self.assertIsNone(first_seen(report, forms, one, one, most))
            results = form_at(report, behind_course(forms, chance.choice(told_courses), one))
            wished = [course for course in told_courses if form_at(report, behind_course(forms, course, one)) == results]
            self.assertEqual(wish(report, forms, one, results, most), wished[0])
            lengths.add(len(wished[0]))
            lengths.add(("seen", len(right[0]) if right else None))
            results[0] += 10 ** 12
            self.assertIsNone(wish(report, forms, one, results, most))
        self.assertLessEqual({0, 1, 2, 3, ("seen", 0), ("seen", 1), ("seen", None)}, lengths)

    def test_order_of_courses(self):
        up, down = ([1], [([[1]], [1])]), ([1], [([[1]], [-1])])
        self.assertEqual(wish(SAME, [down, up], [0], [1], 4), [1])
        self.assertEqual(wish(SAME, [up, up], [0], [2], 4), [0, 0])
        self.assertEqual(wish(SAME, [up, ([1], [([[2]], [0])])], [1], [4], 4), [0, 1])
        self.assertEqual(wish(SAME, [up, ([1], [([[2]], [0])])], [1], [3], 4), [0, 0])
        self.assertEqual(wish(SAME, [up], [0], [0], 0), [])
        self.assertIsNone(wish(SAME, [up], [0], [1], 0))
        self.assertIsNone(wish(SAME, [up], [0], [5], 4))
        self.assertEqual(wish(SAME, [up], [10 ** 9], [10 ** 9 + 4], 4), [0] * 4)
        self.assertEqual(first_seen(FIRST, [SWAP], [1, 2], [1, 3], 3), [0])
        self.assertIsNone(first_seen(FIRST, [SWAP], [1, 2], [1, 3], 0))
        self.assertEqual(first_seen(most=0, other=[2, 3], state=[1, 2], forms=[SWAP], report=FIRST), [])
        self.assertEqual(wish(most=2, results=[2], state=[1, 2], forms=[SWAP], report=FIRST), [0])
        found = wish(FIRST, [SWAP], [1, 2], [2], 2)
        found.append(7)
        self.assertEqual(wish(FIRST, [SWAP], [1, 2], [2], 2), [0])

    def test_wishes_are_plans(self):
        """With the accounts as a report `wish` tells what `fewest` tells."""
        names = ["a", "b", "c"]
        for chance, accounts, scripts, script in cases(532, 80, [[1, 2], [2, 3]], 2):
            others = [[("put", accounts[0], ("number", chance.randint(-2, 2)))], [("times", chance.randint(0, 2), script)]]
            house = House(accounts, scripts + list(zip(names, [script] + others)))
            forms = [map_of(house, [("do", name)]) for name in names]
            if spread(*forms) > 60:
                continue
            state, most = [chance.randint(-3, 3) for _ in accounts], chance.randint(0, 4)
            goal = behind_course(forms, [chance.randrange(3) for _ in range(chance.randint(0, 4))], state)
            plan, course = fewest(house, names, state, goal, most), wish(same_map(len(accounts)), forms, state, goal, most)
            self.assertEqual(course, None if plan is None else [names.index(name) for name in plan])


class TestWhole(unittest.TestCase):
    def test_readings_along_a_run(self):
        """Of what was read behind scripts, `answers` tells of the beginning."""
        kinds = {"sure": 0, "open": 0}
        for chance, accounts, scripts, script in cases(541, 150, [[1, 2], [2], [1, 3]], 2):
            house = House(accounts, scripts)
            readings, lots = [], [[], script, script + script]
            formulas = [some_formula(chance, accounts, [1, 2], 2) for _ in lots]
            for lot, formula in zip(lots, formulas):
                readings.append(joined(map_of(house, lot), form_of(house, [formula])))
            question = form_of(house, [("account", accounts[0])])
            if spread(*readings, question) > 60:
                continue
            state = [chance.randint(-10 ** 6, 10 ** 6) for _ in accounts]
            seen = [form_at(reading, state) for reading in readings]
            kind, *parts = answers(readings, question, seen)
            kinds[kind] += 1
            if kind == "sure":
                self.assertEqual(parts, [[state[0]]])
            else:
                self.assertEqual([[form_at(one, part) for one in readings] for part in parts], [seen, seen])
        self.assertGreater(min(kinds.values()), 10)

    def test_views_are_reports_and_rules(self):
        chance = random.Random(542)
        for moduli in ([1], [2], [2, 1], [1, 1], [1, 1, 1]) * 6:
            form, report = some_form(chance, moduli, 1), some_results(chance, [1] * len(moduli), 1, 2)
            right = told([report], joined(form, report))
            self.assertEqual(closes(report, form), right)
            made = view(report, form, [2])
            self.assertTrue(made is None or right)
            if made is not None:
                self.assertTrue(judge_rule([report], joined(form, report), made))
                self.assertIsNotNone(rule([report], joined(form, report)))

    def test_kept_sums(self):
        chance = random.Random(543)
        done = 0
        for moduli in [[1, 1], [2, 1], [1, 1, 1], [2, 2], [1] * 4] * 6:
            weights = [chance.randint(-2, 2) for _ in moduli]
            form = some_keeping_map(chance, moduli, [weights], 2)
            for found in kept([form]):
                report = ([1] * len(moduli), [([found], [0])])
                self.assertTrue(closes(report, form))
                self.assertTrue(judge_view(report, form, SAME))
                made = view(report, form, [1])
                self.assertTrue(judge_view(report, form, made))
                self.assertTrue(alike(joined(form, report), report))
                done += 1
        self.assertGreater(done, 10)

    def test_courses_and_all_rests(self):
        turn = ([3], [([[1]], [1])] * 3)
        for rest in all_rests([3]):
            self.assertEqual(wish(clock(3), [turn], [0], list(rest), 2), [0] * rest[0])
