"""The examples of DOC.md."""

import doctest
import pathlib
import unittest

DEEDS = '''
>>> from accountmaps.deeds import asked, changed, form_of, map_of, run, script_for, states, value
>>> from accountmaps.houses import House
>>> sell = [("put", "stock", ("number", -1)), ("put", "cash", ("number", 5))]
>>> night = [("put", "day", ("number", 1)), ("set", "day", ("rest", ("account", "day"), 7))]
>>> house = House(["cash", "stock", "day"], [("sell", sell), ("night", night)])
>>> [run(house, [("do", "sell"), ("times", 2, night)], [0, 3, 6]), states(house, night, [0, 0, 6]), value(house, ("rest", ("number", -1), 7), [0, 0, 0])]
[[5, 2, 1], [[0, 0, 7], [0, 0, 0]], 6]
>>> [map_of(house, sell), form_of(house, [("rest", ("account", "day"), 2)]), changed(house, night), asked(house, [("move", "cash", "stock", ("account", "day"))]), asked(house, night), map_of(house, script_for(house, map_of(house, sell))) == map_of(house, sell)]
[([1, 1, 1], [([[1, 0, 0], [0, 1, 0], [0, 0, 1]], [5, -1, 0])]), ([1, 1, 2], [([[0, 0, 0]], [0]), ([[0, 0, 0]], [1])]), ['day'], ['day'], [], True]
'''

MAPS = '''
>>> from accountmaps.maps import alike, at, first_unlike, hangs_on, is_plain, joined, least, matrices, same_map
>>> half, day = ([2], [([[1]], [0]), ([[1]], [1])]), ([7], [([[0]], [1]), ([[0]], [2]), ([[0]], [3]), ([[0]], [4]), ([[0]], [5]), ([[0]], [6]), ([[0]], [0])])
>>> [at(half, [5]), joined(half, half), least(([4], [([[1]], [0]), ([[1]], [1]), ([[1]], [0]), ([[1]], [1])])), alike(half, half), first_unlike(half, ([1], [([[1]], [0])])), first_unlike(half, ([3], [([[1]], [0]), ([[1]], [1]), ([[1]], [0])]))]
[[6], ([2], [([[1]], [0]), ([[1]], [1])]), ([2], [([[1]], [0]), ([[1]], [1])]), True, [-1], [-1]]
>>> [same_map(2), is_plain(day), hangs_on(day, 0, 0), joined(day, day)[1][6], matrices(half)]
[([1, 1], [([[1, 0], [0, 1]], [0, 0])]), False, True, ([[0]], [1]), [[[1]]]]
'''

KEPT = '''
>>> from accountmaps.kept import changing, is_kept, kept, kept_rests
>>> sell, night = ([1, 1], [([[1, 0], [0, 1]], [5, -1])]), ([1, 3], [([[1, 0], [0, 0]], [0, 1]), ([[1, 0], [0, 0]], [0, 2]), ([[1, 0], [0, 0]], [0, 0])])
>>> [kept([sell]), kept([sell, night]), kept([([1, 1], [([[0, 1], [1, 0]], [0, 0])])]), kept_rests([sell], 3), is_kept([sell], [2, 10]), changing([sell, night], [1, 5]), changing([sell], [1, 0])]
[[[1, 5]], [], [[1, 1]], [[0, 0], [1, 2], [2, 1]], True, (1, [0, 0]), (0, [0, 0])]
'''

REACHING = '''
>>> from accountmaps.reaching import against, judge_against, rests_reached, road, shift, steps_of, way
>>> sell, swap = ([1, 1], [([[1, 0], [0, 1]], [5, -1])]), ([1, 1], [([[0, 1], [1, 0]], [0, 0])])
>>> [shift(sell), shift(swap), way([[5, -1], [2, 0]], [1, 1]), way([[2, 0]], [1, 0]), judge_against([[2, 0]], [1, 0], against([[2, 0]], [1, 0])), judge_against([[2, 0]], [0, 1], ([0, 1], 0)), steps_of([[5, -1], [2, 0]])]
[[5, -1], None, [-1, 3], None, True, True, [[1, 1], [0, 2]]]
>>> [rests_reached([swap], [0, 1], 2), road([sell, swap], [0, 0], [1, 0], 2), road([swap], [0, 1], [1, 1], 2)]
[[[0, 1], [1, 0]], None, None]
'''

ROUNDS = '''
>>> from accountmaps.rounds import after, both, comes_round, comes_round_at, drift, is_calendar, many_before, neither, next_from, power, times_when
>>> sell, day = ([1, 1], [([[1, 0], [0, 1]], [5, -1])]), ([3], [([[0]], [1]), ([[0]], [2]), ([[0]], [0])])
>>> [power(sell, 3), after(sell, [0, 10], 10 ** 30, 7), comes_round(sell), comes_round(day), comes_round_at(day, [1]), comes_round_at(day, [9]), drift(sell, [0, 0])]
[([1, 1], [([[1, 0], [0, 1]], [15, -3])]), [5, 2], None, (1, 3), (0, 3), (1, 3), (1, [5, -1])]
>>> [times_when(day, [9], [1], 2, 1), times_when(sell, [0, 0], [1, 0], 3, 0)]
[([0], 1, 3, [0]), ([], 0, 3, [0])]
>>> odd_days, even = ([0], 1, 3, [0]), ([], 0, 2, [0])
>>> [both(odd_days, even), neither(odd_days, even), many_before(odd_days, 10 ** 30), next_from(odd_days, 2), is_calendar(([0], 1, 6, [0, 3]))]
[([0], 1, 6, [3]), ([], 0, 6, [3, 5]), 333333333333333333333333333334, 4, False]
'''

PLANS = '''
>>> from accountmaps.houses import House
>>> from accountmaps.plans import cheapest, fewest, fewest_map, needless, reached, unlike_maps
>>> house = House(["cash", "day"], [("pay", [("put", "cash", ("number", 5))]), ("ten", [("put", "cash", ("number", 10))]), ("night", [("set", "day", ("number", 0))])])
>>> [fewest(house, ["pay", "ten"], [0, 0], [20, 0], 4), cheapest(house, ["pay", "ten"], [1, 3], [0, 0], [20, 0], 4), reached(house, ["pay", "night"], [0, 1], 2), unlike_maps(house, ["night"], 3), needless(house, ["pay", "ten", "night"], 2)]
[['ten', 'ten'], (4, ['pay', 'pay', 'pay', 'pay']), 5, 2, ['ten']]
>>> fewest_map(house, ["pay", "night"], ([1, 1], [([[1, 0], [0, 0]], [5, 0])]), 2)
['night', 'pay']
'''

READINGS = '''
>>> from accountmaps.readings import read_formula, read_house, read_script, read_state
>>> from accountmaps.texts import show_formula, show_house, show_script, show_state
>>> script = [("put", "cash", ("times", 3, ("account", "day"))), ("times", 2, [("do", "pay")])]
>>> show_script([("when", ("account", "day"), 7, [0, 6], [], [("do", "pay")])])
'when day rest 7 in 0 6 [-] else [do pay]'
>>> [show_script(script), read_script("put cash (3 * day); times 2 [do pay]") == script, show_formula(("rest", ("less", ("account", "a"), ("number", -5)), 7)), read_formula("((a - -5) rest 7)"), show_state([0, -5]), read_state("0 -5")]
['put cash (3 * day); times 2 [do pay]', True, '((a - -5) rest 7)', ('rest', ('less', ('account', 'a'), ('number', -5)), 7), '0 -5', [0, -5]]
>>> show_house(read_house("cash day | pay: put cash 5 | none: -"))
'cash day | pay: put cash 5 | none: -'
'''

REPORTS = '''
>>> from accountmaps.reports import answers, fitting, judge_pair, judge_rule, least_lots, pair, rule, told
>>> both, apart, first = ([1, 1], [([[1, 1]], [0])]), ([1, 1], [([[1, -1]], [0])]), ([1, 1], [([[1, 0]], [0])])
>>> [told([both], first), told([both, apart], first), least_lots([both, apart, first], first), answers([both, apart], first, [[5], [1]]), answers([both, apart], first, [[5], [2]]), fitting([both, apart], [[5], [1]])]
[False, True, [[0, 1], [2]], ('sure', [3]), ('none',), [3, 2]]
>>> half, same = ([2], [([[1]], [0]), ([[1]], [1])]), ([1], [([[1]], [0])])
>>> [told([half], same), judge_pair([half], same, ([1], [2])), judge_pair([half], same, ([2], [3])), judge_pair([half], same, pair([half], same)), told([([1], [([[2]], [0])])], same), rule([([1], [([[2]], [0])])], same), judge_rule([([1], [([[2]], [10])])], ([1], [([[2]], [0])]), ([1], [([[1]], [-10])]))]
[False, True, False, True, True, None, True]
'''

VIEWS = '''
>>> from accountmaps.views import closes, depth, first_seen, judge_view, looked, view, wish
>>> odd, five, third = ([2], [([[0]], [0]), ([[0]], [1])]), ([1], [([[1]], [5])]), ([3], [([[1]], [0]), ([[1]], [1]), ([[1]], [0])])
>>> [closes(odd, five), closes(odd, third), judge_view(odd, five, view(odd, five, [2])), judge_view(odd, five, ([1], [([[-1]], [1])])), view(odd, third, [2])]
[True, False, True, True, None]
>>> swap, first = ([1, 1], [([[0, 1], [1, 0]], [0, 0])]), ([1, 1], [([[1, 0]], [0])])
>>> [closes(first, swap), depth(first, [swap], 3), looked(first, [swap], 1), first_seen(first, [swap], [1, 2], [1, 3], 3), wish(first, [swap], [1, 2], [2], 2), first_seen(first, [swap], [1, 2], [1, 2], 3)]
[False, 1, [([1, 1], [([[1, 0]], [0])]), ([1, 1], [([[0, 1]], [0])])], [0], [0], None]
'''

ORDERS = '''
>>> from accountmaps.orders import apart_pairs, clash, clashes, classes, first_log, least_conflicts, merge_clash, merged, outcomes, pass_each_other, swaps
>>> five, three, double, nought = ([1], [([[1]], [5])]), ([1], [([[1]], [3])]), ([1], [([[2]], [0])]), ([1], [([[0]], [0])])
>>> [pass_each_other(five, three), clash(five, double), clash(five, three), clashes([five, three, double]), outcomes([five, double]), outcomes([five, three])]
[True, [0], None, [(0, 2), (1, 2)], 2, 1]
>>> [swaps([five, three, double], [1, 0, 2]), swaps([five, three, double], [2, 0, 1]), first_log([five, three]) == [three, five], merged([nought], [double], [([1], [([[1]], [0])])]), merge_clash([], [five], [double]), least_conflicts([five], [double]), apart_pairs([five], [double]), classes([five, three, double])]
[[0], None, True, ([1], [([[0]], [0])]), [0], [([], [0]), ([0], [])], [(0, 0)], 4]
'''

BOXES = '''
>>> from accountmaps.boxes import greatest_of, grown, how_many, hull, least_of, leaves, leaving, total
>>> five, half = ([1], [([[1]], [5])]), ([2], [([[1]], [0]), ([[1]], [1])])
>>> night = ([7], [([[0]], [1]), ([[0]], [2]), ([[0]], [3]), ([[0]], [4]), ([[0]], [5]), ([[0]], [6]), ([[0]], [0])])
>>> [least_of(night, 0, [(3, 9)]), greatest_of(night, 0, [(3, 9)]), hull(five, [(-2, 4)]), leaves(five, [(0, 10)], [(0, 12)]), leaves(five, [(0, 7)], [(0, 12)])]
[(0, [6]), (6, [5]), [(3, 9)], [8], None]
>>> [leaving([half], [(0, 3)]), grown([half], [(0, 3)], 1), grown([five], [(0, 3)], 40), how_many(night, [(0, 13)], 2, [0]), total(night, 0, [(0, 13)]), total(five, 0, [(1, 10 ** 9)])]
[(0, [3]), [(0, 4)], None, 8, 42, 500000005500000000]
'''

CELLS = '''
>>> from accountmaps.cells import cells_for, fewest_keeps, first_early, frame_form, frame_of, framed, is_late, kept_as, same_kept, spills, stepwise
>>> from accountmaps.houses import House
>>> five, house = ([1], [([[1]], [5])]), House(["a"], [])
>>> [kept_as([("u", 3), None], [9, -5]), kept_as([("s", 3)], [5]), frame_form([("u", 1)]), spills(five, [("u", 3)]), cells_for(five), cells_for(([3], [([[0]], [0]), ([[0]], [1]), ([[0]], [2])]))]
[[1, -5], [-3], ([2], [([[0]], [0]), ([[0]], [1])]), [3], [None], [('u', 2)]]
>>> script = [("put", "a", ("number", 5)), ("set", "a", ("rest", ("account", "a"), 3))]
>>> [is_late(house, script, [("u", 3)]), first_early(house, script, [("u", 3)]), is_late(house, script[:1], [("u", 3)]), same_kept(five, ([1], [([[1]], [-3])]), [("u", 3)]), fewest_keeps(house, script, [("u", 3)]), frame_of([(-1, 2), (0, 9), (0, 99)])]
[False, [3], True, True, [0], [('s', 3), ('u', 4), None]]
'''

PILES = '''
>>> from accountmaps.houses import House
>>> from accountmaps.piles import as_map, gain, highest, need, pile_form, program_of, run_on, same_programs, tidied
>>> house, more = House(["cash"], []), [("read", "cash"), ("push", 3), ("plus",), ("write", "cash")]
>>> [run_on(house, more, [5], [7]), need([("plus",)]), gain([("plus",)]), highest(more), pile_form(house, [("less",)]), as_map(house, more)]
[([8], [7]), 2, -1, 2, ([1, 1, 1], [([[1, 0, 0], [0, -1, 1]], [0, 0])]), ([1], [([[1]], [3])])]
>>> [tidied([("shift", 1, [1, 1]), ("shift", 2, [2, 1]), ("push", 1), ("shift", 1, [1])]), same_programs(house, more, program_of(house, [("put", "cash", ("number", 3))])), as_map(house, [("plus",)])]
[[('shift', 1, [1, 1]), ('push', 1)], True, None]
>>> run_on(house, [("choose", 2, [1], [("push", 10)], [("push", 20)])], [0], [4, 3])
([0], [4, 10])
'''

UNDOING = '''
>>> from accountmaps.undoing import amended, back, can_take_out, fallen_together, idle_maps, is_one_to_one, is_onto, never_made, taken_out, whole
>>> five, double, turned, nought = ([1], [([[1]], [5])]), ([1], [([[2]], [0])]), ([1], [([[-1]], [0])]), ([1], [([[0]], [0])])
>>> [is_one_to_one(double), is_onto(double), never_made(double), back(double), back(five), fallen_together(double), is_one_to_one(([2], [([[1]], [0]), ([[1]], [1])]))]
[True, False, [-1], None, ([1], [([[1]], [-5])]), None, False]
>>> [whole([five, turned]), can_take_out([five, double], 0), taken_out([five, double], 0), taken_out([five, turned], 0), amended([five, turned], 0, double), idle_maps([five, nought])]
[([1], [([[-1]], [-5])]), True, None, ([1], [([[1]], [5])]), ([1], [([[2]], [10])]), [0]]
'''

DESKS = '''
>>> from accountmaps.desks import Desk
>>> from accountmaps.houses import House
>>> desk = Desk(House(["cash", "stock"], []), [10, 3])
>>> told = [desk.order("do put cash 5"), desk.branch("other"), desk.order("do move stock cash 1"), desk.switch("other"), desk.order("do set stock 0"), desk.order("lock stock"), desk.log()]
>>> told
['15 3', None, '16 2', [15, 3], '15 0', 'done', [[('put', 'cash', ('number', 5))], [('set', 'stock', ('number', 0))]]]
>>> [desk.order("undo"), desk.order("undo"), desk.order("do put cash 1"), desk.order("merge main"), len(desk), desk.order("map"), desk.take_out(0), desk.forks(), desk.readable(["cash"])]
['done', 'done', '16 3', '17 2', 6, 'plain 1 0 0 1 7 -1', [12, 2], ['main', 'other'], ['cash']]
'''


class TestExamples(unittest.TestCase):
    def check(self, text, name):
        test = doctest.DocTestParser().get_doctest(text, {}, name, None, 0)
        self.assertTrue(test.examples)
        failed = doctest.DocTestRunner(verbose=False).run(test).failed
        self.assertEqual(failed, 0)

    def test_deeds(self):
        self.check(DEEDS, "deeds")

    def test_maps(self):
        self.check(MAPS, "maps")

    def test_kept(self):
        self.check(KEPT, "kept")

    def test_reaching(self):
        self.check(REACHING, "reaching")

    def test_rounds(self):
        self.check(ROUNDS, "rounds")

    def test_plans(self):
        self.check(PLANS, "plans")

    def test_readings(self):
        self.check(READINGS, "readings")

    def test_reports(self):
        self.check(REPORTS, "reports")

    def test_views(self):
        self.check(VIEWS, "views")

    def test_orders(self):
        self.check(ORDERS, "orders")

    def test_boxes(self):
        self.check(BOXES, "boxes")

    def test_cells(self):
        self.check(CELLS, "cells")

    def test_piles(self):
        self.check(PILES, "piles")

    def test_undoing(self):
        self.check(UNDOING, "undoing")

    def test_desks(self):
        self.check(DESKS, "desks")

    def test_readme(self):
        readme = pathlib.Path(__file__).resolve().parent.parent / "README.md"
        self.check(readme.read_text().split("```python\n")[1].split("```")[0], "README.md")
