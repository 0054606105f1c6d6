"""Promise 21: the errors of reports.py, views.py, orders.py and boxes.py."""

import random
import unittest

from accountmaps.boxes import greatest_of, grown, how_many, hull, least_of, leaves, leaving, total
from accountmaps.errors import InvalidBox, InvalidForm, InvalidModulus, InvalidNumber, InvalidState
from accountmaps.orders import apart_pairs, clash, clashes, classes, first_log, least_conflicts, merge_clash, merged
from accountmaps.orders import outcomes, pass_each_other, swaps
from accountmaps.reports import answers, fitting, judge_pair, judge_rule, least_lots, pair, rule, told
from accountmaps.views import closes, depth, first_seen, judge_view, looked, view, wish
from tests.helping import are_apart, error_of, refused, some_form, some_results, spoilt_forms

CHANCE = random.Random(801)
REPORT, TWO = some_results(CHANCE, [2, 1], 1, 3), some_results(CHANCE, [1, 1], 2, 3)
MAP, OTHER = some_form(CHANCE, [2, 1], 3), some_form(CHANCE, [1, 1], 1)
ONE = ([1], [([[1]], [0])])
SPOILT = list(spoilt_forms(TWO)) + [ONE]
SPOILT_MAPS = list(spoilt_forms(MAP)) + [ONE, REPORT, some_results(CHANCE, [1, 1], 3, 2)]


class TestReports(unittest.TestCase):
    def test_reports(self):
        for wrong in SPOILT:
            others = [[TWO, wrong], [TWO, wrong, ()]]
            for reports in others if wrong == ONE else others + [[wrong, TWO], [wrong]]:
                refused(self, wrong, InvalidForm, lambda: told(reports, ()), lambda: pair(reports, ()),
                        lambda: judge_pair(reports, (), ([], [])), lambda: fitting(reports, []),
                        lambda: answers(reports, (), []), lambda: least_lots(reports, ()),
                        lambda: rule(question=(), reports=reports), lambda: judge_rule(reports, (), ()))

    def test_questions(self):
        for wrong in SPOILT:
            refused(self, wrong, InvalidForm, lambda: told([TWO, REPORT], wrong), lambda: pair([TWO], wrong),
                    lambda: judge_pair([TWO], wrong, ([], [])), lambda: answers([TWO], wrong, []),
                    lambda: least_lots([TWO], wrong), lambda: rule([TWO], wrong),
                    lambda: judge_rule([TWO], wrong, ()), lambda: told(question=wrong, reports=[REPORT]))
            if wrong != ONE:
                refused(self, wrong, InvalidForm, lambda: told([], wrong), lambda: least_lots([], wrong),
                        lambda: judge_rule([], wrong, ()))

    def test_told_rules(self):
        for reports, accounts, results in (([TWO], 2, 1), ([TWO, REPORT], 3, 1), ([REPORT, REPORT], 2, 1)):
            right = some_results(random.Random(802), [2] + [1] * (accounts - 1), results, 2)
            self.assertIsNone(error_of(judge_rule, reports, REPORT, right))
            wrongs = list(spoilt_forms(right))
            wrongs += [some_results(random.Random(803), [1] * many, 2, 1) for many in (1, 2, 3, 4)]
            wrongs += [some_results(random.Random(803), [1] * many, 1, 1) for many in (1, 4)]
            for wrong in wrongs:
                refused(self, wrong, InvalidForm, lambda: judge_rule(reports, REPORT, wrong),
                        lambda: judge_rule(told_rule=wrong, question=REPORT, reports=reports))

    def test_no_report(self):
        refused(self, 0, InvalidNumber, lambda: told([], TWO), lambda: pair([], TWO), lambda: fitting([], []),
                lambda: fitting([], [[1]]), lambda: judge_pair([], TWO, ([], [])), lambda: answers([], TWO, [[]]),
                lambda: least_lots([], TWO), lambda: rule([], TWO), lambda: told(question=TWO, reports=[]))

    def test_seen(self):
        for wrong in ([], [[]], [[1]], [[1, 2, 3]], [[1, 2], [1]], [[1], [1]], [[1, 2], []]):
            refused(self, wrong, InvalidState, lambda: fitting([TWO], wrong), lambda: answers([TWO], REPORT, wrong),
                    lambda: answers(seen=wrong, question=TWO, reports=[TWO]))
        for wrong in ([[1, 2]], [[1], [1, 2]], [[1, 2], [1, 2]], [[1, 2], [1], []]):
            refused(self, wrong, InvalidState, lambda: fitting([TWO, REPORT], wrong))
        self.assertIsNone(error_of(fitting, [TWO, REPORT], [[1, 2], [3]]))


class TestViews(unittest.TestCase):
    def test_reports(self):
        for wrong in SPOILT[:-1]:
            refused(self, wrong, InvalidForm, lambda: closes(wrong, ()), lambda: view(wrong, (), [0]),
                    lambda: judge_view(wrong, (), ()), lambda: looked(wrong, [()], -1), lambda: depth(wrong, [], -1),
                    lambda: first_seen(wrong, [()], [], [], -1), lambda: wish(wrong, [], [], [], -1),
                    lambda: closes(form=(), report=wrong))

    def test_maps(self):
        for wrong in SPOILT_MAPS:
            refused(self, wrong, InvalidForm, lambda: closes(REPORT, wrong), lambda: view(REPORT, wrong, []),
                    lambda: judge_view(REPORT, wrong, ()), lambda: looked(REPORT, [MAP, wrong, ()], -1),
                    lambda: depth(REPORT, [wrong], -1), lambda: first_seen(REPORT, [wrong, ()], [], [], -1),
                    lambda: wish(REPORT, [MAP, wrong], [], [], -1),
                    lambda: wish(most=-1, results=[], state=[], forms=[wrong], report=REPORT))

    def test_no_map(self):
        refused(self, 0, InvalidNumber, lambda: looked(REPORT, [], -1), lambda: depth(REPORT, [], -1),
                lambda: first_seen(REPORT, [], [], [], -1), lambda: wish(REPORT, [], [], [], -1))

    def test_moduli(self):
        for wrong in ([], [0, 0], [1, 1, 0]):
            refused(self, wrong, InvalidState, lambda: view(REPORT, MAP, wrong),
                    lambda: view(moduli=wrong, form=MAP, report=REPORT))
        refused(self, [1], InvalidState, lambda: view(TWO, MAP, [1]))
        for wrong in (0, -5):
            refused(self, wrong, InvalidModulus, lambda: view(REPORT, MAP, [wrong]),
                    lambda: view(TWO, MAP, [1, wrong]), lambda: view(TWO, MAP, [wrong, -9]))
        self.assertIsNone(error_of(view, TWO, MAP, [1, 2]))

    def test_told_forms(self):
        for report, results in ((REPORT, 1), (TWO, 2)):
            right = some_form(random.Random(804), [2] * results, 3)
            self.assertIsNone(error_of(judge_view, report, MAP, right))
            wrongs = list(spoilt_forms(right)) + [some_results(random.Random(805), [1, 1], 1, 2),
                                                  some_results(random.Random(805), [1] * (3 - results), 3 - results, 2)]
            for wrong in wrongs:
                refused(self, wrong, InvalidForm, lambda: judge_view(report, MAP, wrong),
                        lambda: judge_view(told_form=wrong, form=MAP, report=report))

    def test_states_and_numbers(self):
        for wrong in ([], [1], [1, 2, 3]):
            refused(self, wrong, InvalidState, lambda: first_seen(REPORT, [MAP], wrong, [], -1),
                    lambda: first_seen(REPORT, [MAP], [1, 2], wrong, -1), lambda: wish(TWO, [MAP], wrong, [], -1),
                    lambda: wish(TWO, [MAP], [1, 2], wrong, -1))
        refused(self, [1, 2], InvalidState, lambda: wish(REPORT, [MAP], [1, 2], [1, 2], -1))
        for wrong in (-1, -10 ** 30):
            refused(self, wrong, InvalidNumber, lambda: looked(REPORT, [MAP], wrong),
                    lambda: depth(REPORT, [MAP], wrong), lambda: first_seen(REPORT, [MAP], [1, 2], [3, 4], wrong),
                    lambda: wish(REPORT, [MAP], [1, 2], [3], wrong),
                    lambda: depth(most=wrong, forms=[MAP], report=TWO))
        for call in (lambda: looked(REPORT, [MAP], 0), lambda: depth(REPORT, [OTHER], 0),
                     lambda: first_seen(REPORT, [MAP], [1, 2], [3, 4], 0), lambda: wish(REPORT, [MAP], [1, 2], [3], 0)):
            self.assertIsNone(error_of(call))


class TestOrders(unittest.TestCase):
    def test_maps(self):
        for wrong in SPOILT_MAPS:
            refused(self, wrong, InvalidForm, lambda: pass_each_other(MAP, wrong), lambda: clash(MAP, wrong),
                    lambda: clashes([MAP, OTHER, wrong]), lambda: outcomes([MAP, wrong, ()]),
                    lambda: swaps([MAP, wrong], []), lambda: first_log([MAP, wrong]),
                    lambda: merged([MAP], [OTHER], [wrong]), lambda: merged([], [OTHER, wrong], [()]),
                    lambda: merge_clash([OTHER, wrong], [()], [()]), lambda: merge_clash([], [OTHER], [MAP, wrong]),
                    lambda: classes([MAP, wrong]), lambda: apart_pairs([MAP], [wrong]),
                    lambda: apart_pairs([], [MAP, wrong]), lambda: least_conflicts([OTHER, wrong], [()]),
                    lambda: clash(other=wrong, one=MAP))
            if wrong != ONE:
                refused(self, wrong, InvalidForm, lambda: pass_each_other(wrong, ()), lambda: clash(wrong, ()),
                        lambda: clashes([wrong]), lambda: swaps([wrong], [7]), lambda: merged([wrong], [], []),
                        lambda: merge_clash([], [], [wrong]), lambda: least_conflicts([], [wrong]),
                        lambda: outcomes(log=[wrong]), lambda: classes([wrong]), lambda: first_log([wrong]))

    def test_no_map(self):
        refused(self, 0, InvalidNumber, lambda: merged([], [], []), lambda: merge_clash([], [], []),
                lambda: merged(other=[], one=[], base=[]))
        for call in (lambda: clashes([]), lambda: outcomes([]), lambda: swaps([], []), lambda: first_log([]),
                     lambda: classes([]), lambda: apart_pairs([], []), lambda: least_conflicts([], [])):
            self.assertIsNone(error_of(call))

    def test_orders(self):
        for wrong in ([], [0], [0, 0], [1, 2], [0, 1, 2], [-1, 0], [0, 2], [1, 1]):
            refused(self, wrong, InvalidState, lambda: swaps([MAP, OTHER], wrong),
                    lambda: swaps(order=wrong, log=[MAP, MAP]))
        for wrong in ([0], [1]):
            refused(self, wrong, InvalidState, lambda: swaps([], wrong))
        refused(self, [1], InvalidState, lambda: swaps([MAP], [1]))


class TestBoxes(unittest.TestCase):
    WRONG = ([], [(0, 1)], [(0, 1)] * 3, [(1, 0), (0, 1)], [(0, 1), (5, 4)])
    BOX = [(0, 3), (-2, -2)]

    def test_forms(self):
        for wrong in SPOILT[:-1]:
            refused(self, wrong, InvalidForm, lambda: least_of(wrong, -1, []), lambda: greatest_of(wrong, 9, []),
                    lambda: hull(wrong, []), lambda: leaves(wrong, [], []), lambda: how_many(wrong, [], 0, []),
                    lambda: total(wrong, -1, []), lambda: total(box=[], result=0, form=wrong))
        for wrong in SPOILT_MAPS:
            refused(self, wrong, InvalidForm, lambda: leaving([MAP, wrong, ()], []),
                    lambda: grown([MAP, wrong], [], -1))
            if wrong != ONE:
                refused(self, wrong, InvalidForm, lambda: leaving([wrong, ()], []), lambda: grown([wrong], [], -1))

    def test_no_form(self):
        refused(self, 0, InvalidNumber, lambda: leaving([], []), lambda: grown([], [], -1),
                lambda: grown(rounds=-1, box=[(1, 0)], forms=[]))

    def test_results(self):
        for wrong in (-1, 2, 10 ** 30):
            refused(self, wrong, InvalidNumber, lambda: least_of(TWO, wrong, []),
                    lambda: greatest_of(TWO, wrong, []), lambda: total(TWO, wrong, [(1, 0)]),
                    lambda: least_of(box=[], result=wrong, form=TWO))
        self.assertIsNone(error_of(least_of, TWO, 1, self.BOX))

    def test_boxes(self):
        for wrong in self.WRONG:
            refused(self, wrong, InvalidBox, lambda: least_of(TWO, 1, wrong), lambda: greatest_of(TWO, 0, wrong),
                    lambda: hull(REPORT, wrong), lambda: leaves(REPORT, wrong, []),
                    lambda: leaves(MAP, self.BOX, wrong), lambda: leaving([MAP], wrong),
                    lambda: grown([MAP], wrong, -1), lambda: how_many(TWO, wrong, 0, []),
                    lambda: total(TWO, 1, wrong), lambda: leaves(other=[], box=wrong, form=TWO))
        refused(self, self.BOX, InvalidBox, lambda: leaves(REPORT, self.BOX, self.BOX))
        self.assertIsNone(error_of(leaves, REPORT, self.BOX, [(0, 0)]))

    def test_numbers(self):
        for wrong in (-1, -40):
            refused(self, wrong, InvalidNumber, lambda: grown([MAP], self.BOX, wrong))
        for wrong in (0, -7):
            refused(self, wrong, InvalidModulus, lambda: how_many(TWO, self.BOX, wrong, []),
                    lambda: how_many(rests=[], modulus=wrong, box=self.BOX, form=TWO))
        for wrong in ([], [0], [0, 0, 0], [0, 3], [-1, 0], [3, 0]):
            refused(self, wrong, InvalidState, lambda: how_many(TWO, self.BOX, 3, wrong))
        refused(self, [0, 1], InvalidState, lambda: how_many(TWO, self.BOX, 1, [0, 1]))
        self.assertIsNone(error_of(how_many, TWO, self.BOX, 3, [2, 0]))
        self.assertIsNone(error_of(grown, [MAP], self.BOX, 0))


class TestWhatIsPassedStays(unittest.TestCase):
    def test_all(self):
        things = [REPORT, TWO, MAP, OTHER, TestBoxes.BOX]
        before = repr(things)
        for call in (lambda: pair([REPORT], TWO), lambda: answers([TWO], REPORT, [[1, 1]]), lambda: rule([OTHER], OTHER),
                     lambda: least_lots([REPORT, TWO], OTHER), lambda: looked(REPORT, [MAP, OTHER], 1),
                     lambda: view(TWO, OTHER, [1, 2]), lambda: first_log([MAP, OTHER]), lambda: merged([MAP], [], []),
                     lambda: hull(MAP, TestBoxes.BOX), lambda: grown([MAP], TestBoxes.BOX, 2)):
            made = call()
            self.assertTrue(are_apart(made, things))
        self.assertEqual(repr(things), before)
