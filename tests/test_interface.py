"""The interface: each function stands in its file, and takes what DOC.md says, by position or by name."""

import importlib
import inspect
import unittest

FUNCTIONS = {
    "deeds": """value(house, formula, state) run(house, script, state) states(house, script, state)
        map_of(house, script) form_of(house, formulas) script_for(house, form) changed(house, script)
        asked(house, script)""",
    "maps": """least(form) at(form, state) joined(one, other) alike(one, other) first_unlike(one, other)
        same_map(accounts) is_plain(form) matrices(form) hangs_on(form, result, account)""",
    "kept": "kept(forms) kept_rests(forms, modulus) is_kept(forms, weights) changing(forms, weights)",
    "reaching": """shift(form) way(shifts, goal) against(shifts, goal) judge_against(shifts, goal, told)
        steps_of(shifts) rests_reached(forms, state, modulus) road(forms, state, goal, modulus)""",
    "rounds": """power(form, times) after(form, state, times, modulus) comes_round(form) comes_round_at(form, state)
        drift(form, state) times_when(form, state, weights, modulus, rest) is_calendar(told) both(one, other)
        neither(one, other) many_before(told, number) next_from(told, number)""",
    "plans": """fewest(house, names, state, goal, most) fewest_map(house, names, form, most)
        cheapest(house, names, costs, state, goal, most) reached(house, names, state, most)
        unlike_maps(house, names, most) needless(house, names, most)""",
    "texts": "show_formula(formula) show_script(script) show_house(house) show_state(state)",
    "readings": "read_formula(text) read_script(text) read_house(text) read_state(text)",
    "reports": """told(reports, question) pair(reports, question) judge_pair(reports, question, told_pair)
        fitting(reports, seen) answers(reports, question, seen) least_lots(reports, question) rule(reports, question)
        judge_rule(reports, question, told_rule)""",
    "views": """closes(report, form) view(report, form, moduli) judge_view(report, form, told_form)
        looked(report, forms, deep) depth(report, forms, most) first_seen(report, forms, state, other, most)
        wish(report, forms, state, results, most)""",
    "orders": """pass_each_other(one, other) clash(one, other) clashes(log) outcomes(log) swaps(log, order)
        first_log(log) merged(base, one, other) merge_clash(base, one, other) classes(log) apart_pairs(one, other)
        least_conflicts(one, other)""",
    "boxes": """least_of(form, result, box) greatest_of(form, result, box) hull(form, box) leaves(form, box, other)
        leaving(forms, box) grown(forms, box, rounds) how_many(form, box, modulus, rests) total(form, result, box)""",
}


class TestInterface(unittest.TestCase):
    def test_functions(self):
        for file, told in FUNCTIONS.items():
            module = importlib.import_module("accountmaps." + file)
            for one in told.replace("\n", " ").split(") "):
                name, things = one.strip().rstrip(")").split("(")
                function = getattr(module, name)
                self.assertTrue(inspect.isfunction(function))
                self.assertEqual((function.__name__, function.__module__), (name, module.__name__))
                found = inspect.signature(function).parameters.values()
                self.assertEqual([thing.name for thing in found], things.split(", "))
                self.assertEqual({(thing.kind, thing.default) for thing in found},
                                 {(inspect.Parameter.POSITIONAL_OR_KEYWORD, inspect.Parameter.empty)})
