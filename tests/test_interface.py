"""The interface: each function stands in its file, and takes what DOC.md says, by position or by name."""

import importlib
import inspect
import re
import unittest

FUNCTIONS = {
    "deeds": """value(house, formula, state) run(house, script, state) states(house, script, state)
        map_of(house, script) form_of(house, formulas) script_for(house, form) changed(house, script)
        asked(house, script)""",
    "maps": """least(form) at(form, state) joined(one, other) alike(one, other) first_unlike(one, other)
        same_map(accounts) is_plain(form) matrices(form) hangs_on(form, result, account)""",
    "kept": "kept(forms) kept_rests(forms, modulus) is_kept(forms, weights) changing(forms, weights)",
    "reaching": """shift(form) way(shifts, goal) against(shifts, goal) judge_against(shifts, goal, told)
        steps_of(shifts) rests_reached(forms, state, modulus) road(forms, state, goal, modulus)""",
    "rounds": """power(form, times) after(form, state, times, modulus) comes_round(form) comes_round_at(form, state)
        drift(form, state) times_when(form, state, weights, modulus, rest) is_calendar(told) both(one, other)
        neither(one, other) many_before(told, number) next_from(told, number)""",
    "plans": """fewest(house, names, state, goal, most) fewest_map(house, names, form, most)
        cheapest(house, names, costs, state, goal, most) reached(house, names, state, most)
        unlike_maps(house, names, most) needless(house, names, most)""",
    "texts": "show_formula(formula) show_script(script) show_house(house) show_state(state)",
    "readings": "read_formula(text) read_script(text) read_house(text) read_state(text)",
    "reports": """told(reports, question) pair(reports, question) judge_pair(reports, question, told_pair)
        fitting(reports, seen) answers(reports, question, seen) least_lots(reports, question) rule(reports, question)
        judge_rule(reports, question, told_rule)""",
    "views": """closes(report, form) view(report, form, moduli) judge_view(report, form, told_form)
        looked(report, forms, deep) depth(report, forms, most) first_seen(report, forms, state, other, most)
        wish(report, forms, state, results, most)""",
    "orders": """pass_each_other(one, other) clash(one, other) clashes(log) outcomes(log) swaps(log, order)
        first_log(log) merged(base, one, other) merge_clash(base, one, other) classes(log) apart_pairs(one, other)
        least_conflicts(one, other)""",
    "boxes": """least_of(form, result, box) greatest_of(form, result, box) hull(form, box) leaves(form, box, other)
        leaving(forms, box) grown(forms, box, rounds) how_many(form, box, modulus, rests) total(form, result, box)""",
    "cells": """kept_as(frame, state) frame_form(frame) framed(form, frame) stepwise(house, script, frame)
        is_late(house, script, frame) first_early(house, script, frame) spills(form, frame)
        same_kept(one, other, frame) cells_for(form) frame_of(box) fewest_keeps(house, script, frame)""",
    "piles": """need(program) gain(program) run_on(house, program, state, pile) formula_program(formula)
        program_of(house, script) pile_form(house, program) as_map(house, program) same_programs(house, one, other)
        parted(house, one, other) tidied(program) highest(program)""",
    "undoing": """is_one_to_one(form) fallen_together(form) is_onto(form) never_made(form) back(form) whole(log)
        can_take_out(log, index) taken_out(log, index) amended(log, index, form) idle_maps(log)""",
}


# The classes with their methods, and their properties without brackets.
CLASSES = {
    ("houses", "House"): """__init__(accounts, scripts) accounts scripts __getitem__(at) __len__() __eq__(other)
        with_script(name, script) without_script(name) users(name)""",
    ("desks", "Desk"): """__init__(house, state) house state fork __len__() log() forks() locks() do(script) lock(name)
        unlock(name) branch(name) switch(name) merge(name) take_out(index) undo() readable(names) program()
        order(text)""",
}


class TestInterface(unittest.TestCase):
    def test_functions(self):
        for file, told in FUNCTIONS.items():
            module = importlib.import_module("accountmaps." + file)
            for one in told.replace("\n", " ").split(") "):
                name, things = one.strip().rstrip(")").split("(")
                function = getattr(module, name)
                self.assertTrue(inspect.isfunction(function))
                self.assertEqual((function.__name__, function.__module__), (name, module.__name__))
                found = inspect.signature(function).parameters.values()
                self.assertEqual([thing.name for thing in found], things.split(", "))
                self.assertEqual({(thing.kind, thing.default) for thing in found},
                                 {(inspect.Parameter.POSITIONAL_OR_KEYWORD, inspect.Parameter.empty)})

    def test_classes(self):
        for (file, name), told in CLASSES.items():
            kind = getattr(importlib.import_module("accountmaps." + file), name)
            self.assertEqual((kind.__name__, kind.__module__), (name, "accountmaps." + file))
            for one in re.findall(r"[a-z_]+(?:\([a-z, ]*\))?", told):
                method, _, things = one.rstrip(")").partition("(")
                found = vars(kind)[method]
                if "(" in one:
                    named = [thing for thing in ["self"] + things.split(", ") if thing]
                    self.assertEqual(list(inspect.signature(found).parameters), named)
                else:
                    self.assertIsInstance(found, property)
