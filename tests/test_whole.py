"""Promises 17, 21 and 22 of the last four files, over the whole: what the parts tell of one another."""

import math
import random
import unittest

from accountmaps.boxes import leaving
from accountmaps.cells import frame_form, framed, spills, stepwise
from accountmaps.deeds import form_of, map_of, run, script_for, value
from accountmaps.desks import Desk
from accountmaps.houses import House
from accountmaps.maps import alike, joined, same_map
from accountmaps.orders import classes, first_log, merged, outcomes, pass_each_other, swaps
from accountmaps.piles import as_map, formula_program, pile_form, program_of, run_on
from accountmaps.plans import fewest, unlike_maps
from accountmaps.reaching import against, way
from accountmaps.readings import read_house, read_script
from accountmaps.reports import answers, judge_rule, rule, told
from accountmaps.rounds import after, both, comes_round, comes_round_at, power, times_when
from accountmaps.texts import show_house, show_script
from accountmaps.undoing import amended, back, can_take_out, idle_maps, taken_out, whole
from accountmaps.views import closes, wish
from tests.helping import all_rests, cases, form_at, some_formula, states_for, weighted_sum
from tests.test_desks import Plain, put, some_script
from tests.test_undoing import common, some_map, step, turn


def small_cases(seed, many, lots, most=60):
    """Made-up tuples (chance, house, script, form) with few rests."""
    for chance, accounts, scripts, script in cases(seed, many, lots, 3):
        house = House(accounts, scripts)
        form = map_of(house, script)
        if common(form) <= most:
            yield chance, house, script, form


def is_on(calendar, times):
    """Whether a number of times is one of a calendar's."""
    early, first, length, found = calendar
    return times in early if times < first else (times - first) % length in found


class TestLeadingBack(unittest.TestCase):
    def test_scripts_that_lead_back(self):
        chance = random.Random(1301)
        done = 0
        for moduli in [[1], [2], [3], [1, 1], [2, 1], [2, 2], [1, 1, 1], [2, 1, 1]] * 8:
            house = House(["a", "b", "c"][:len(moduli)], [])
            form = joined(step(chance, len(moduli)), turn(chance, moduli))
            script = script_for(house, form)
            other = script_for(house, back(map_of(house, script)))
            for state in states_for(chance, len(moduli), 3, 10 ** 6):
                self.assertEqual(run(house, script + other, state), state)
                self.assertEqual(run(house, other + script, state), state)
            self.assertEqual(map_of(house, script + other), same_map(len(moduli)))
            # It is led back as a program, and read as a text, all the same.
            program = program_of(house, read_script(show_script(other)))
            self.assertEqual(as_map(house, program_of(house, script) + program), same_map(len(moduli)))
            done += 1
        self.assertGreater(done, 50)

    def test_logs_led_back_at_any_place(self):
        chance = random.Random(1302)
        done = 0
        for moduli in [[1], [2], [2, 1], [1, 1], [1, 1, 1]] * 12:
            log = [some_map(chance, moduli) for _ in range(chance.randint(1, 4))]
            index, accounts = chance.randrange(len(log)), len(moduli)
            if common(*log) > 60:
                continue
            without = whole(log[:index] + [same_map(accounts)] + log[index + 1:])
            self.assertEqual(can_take_out(log, index), told([whole(log)], without))
            made = taken_out(log, index)
            if made is not None:
                self.assertTrue(judge_rule([whole(log)], without, made))
                self.assertEqual(whole(log + [made]), without)
                backs = [back(form) for form in log[index:]]
                self.assertEqual(whole(log + backs[::-1] + log[index + 1:]), without)
                # A map without which the log does the same is led back by what leaves all that comes of the log.
                self.assertEqual(index in idle_maps(log), joined(whole(log), made) == whole(log))
                self.assertTrue(index in idle_maps(log) or not alike(made, same_map(accounts)))
                other = some_map(chance, [1] * accounts)
                if common(*log, other) <= 60:
                    self.assertEqual(whole(log + [amended(log, index, other)]),
                                     whole(log[:index] + [other] + log[index + 1:]))
                done += 1
        self.assertGreater(done, 20)


class TestDesksAndTheRest(unittest.TestCase):
    def some_desk(self, chance, scripts):
        house = House(["cash", "day"][:chance.randint(1, 2)], [("pay", put("cash", 5))])
        desk = Desk(house, [chance.randint(-9, 9) for _ in house.accounts])
        for _ in range(scripts):
            desk.do(some_script(chance, house.accounts))
        return house, desk, [map_of(house, script) for script in desk.log()]

    def test_scripts_taken_out(self):
        chance = random.Random(1311)
        done = 0
        for _ in range(120):
            house, desk, log = self.some_desk(chance, chance.randint(1, 4))
            index, state = chance.randrange(len(log)), desk.state
            made = taken_out(log, index)
            self.assertEqual(desk.order("map").split(" ")[0], "plain" if max(whole(log)[0]) == 1 else "rests")
            left = desk.take_out(index)
            if made is not None:
                self.assertEqual(form_at(made, state), left)
                done += 1
            if index in idle_maps(log):
                self.assertEqual(left, state)
            self.assertEqual(as_map(house, desk.program()), whole(log[:index] + log[index + 1:] + [same_map(len(state))]))
        self.assertGreater(done, 40)

    def test_readable_accounts(self):
        chance = random.Random(1312)
        for _ in range(60):
            house, desk, log = self.some_desk(chance, chance.randint(1, 3))
            form, accounts = whole(log), house.accounts
            if back(form) is not None:
                self.assertEqual(desk.readable(accounts), sorted(accounts))
            for name in desk.readable(accounts):
                ask = form_of(house, [("account", name)])
                self.assertTrue(told([form], ask))
                start = [chance.randint(-99, 99) for _ in accounts]
                seen = form_at(form, start)
                self.assertEqual(answers([form], ask, [seen]), ("sure", [start[accounts.index(name)]]))
                made = rule([form], ask) if math.prod(form[0]) <= 6 and len(accounts) <= 2 else None
                if made is not None:
                    self.assertEqual(form_at(made, seen), [start[accounts.index(name)]])

    def test_merges_of_forks_are_merges_of_logs(self):
        chance = random.Random(1313)
        kinds = {True: 0, False: 0}
        for _ in range(100):
            house, desk, base = self.some_desk(chance, chance.randint(0, 2))
            desk.branch("b")
            one, other = [[some_script(chance, house.accounts) for _ in range(chance.randint(1, 2))] for _ in range(2)]
            for script in one:
                desk.do(script)
            desk.switch("b")
            for script in other:
                desk.do(script)
            forms = [[map_of(house, script) for script in lot] for lot in (one, other)]
            made = merged(base, forms[1], forms[0])
            try:
                state = desk.merge("main")
            except ValueError as error:
                self.assertIsNone(made)
                self.assertEqual(type(error).__name__, "Clash")
            else:
                start = Plain(house, [0]).form([(0, script) for script in desk.log()])
                self.assertEqual(made, start)
                self.assertEqual(desk.state, state)
            kinds[made is not None] += 1
        self.assertGreater(min(kinds.values()), 20)


class TestProgramsAndReports(unittest.TestCase):
    def test_answers_behind_programs(self):
        done = 0
        for chance, house, script, form in small_cases(1321, 150, [[1, 2], [2], [1, 3]]):
            formula = some_formula(chance, house.accounts, [1, 2], 1)
            program = program_of(house, script) + formula_program(formula)
            report = pile_form(house, program)
            ask = form_of(house, [("account", house.accounts[0])])
            if math.prod(report[0]) > 60:
                continue
            state = [chance.randint(-10 ** 6, 10 ** 6) for _ in house.accounts]
            then, pile = run_on(house, program, state, [])
            self.assertEqual(pile, [value(house, formula, run(house, script, state))])
            kind, *parts = answers([report], ask, [then + pile])
            self.assertNotEqual(kind, "none")
            if kind == "sure":
                self.assertEqual(parts, [[state[0]]])
                done += 1
            else:
                for one in parts:
                    self.assertEqual(run_on(house, program, one, []), (then, pile))
            # What the script makes tells it exactly if what the program leaves does.
            asked = joined(form, form_of(house, [formula]))
            self.assertEqual(told([form, asked], ask), told([report], ask))
            self.assertEqual(told([form], ask), told([report], ask))
        self.assertGreater(done, 20)

    def test_one_form_by_map_text_and_program(self):
        for chance, house, script, form in small_cases(1322, 100, [[1, 2], [2, 3]], 600):
            again = read_house(show_house(house))
            self.assertEqual(map_of(again, read_script(show_script(script))), form)
            if math.prod(form[0]) <= 60:
                self.assertEqual(as_map(house, program_of(again, script)), form)
                times = chance.randint(0, 3)
                if common(form) <= 60:
                    repeated = as_map(house, [("repeat", times, program_of(house, script))])
                    self.assertEqual(repeated, power(form, times))
                    self.assertEqual(repeated, map_of(house, [("times", times, script)]))


class TestOrders(unittest.TestCase):
    def test_orders_keep_the_whole(self):
        chance = random.Random(1331)
        for moduli in [[1], [2], [2, 1], [1, 1], [1, 1, 1]] * 10:
            few = [some_map(chance, moduli) for _ in range(2)] + [step(chance, len(moduli))]
            log = [chance.choice(few) for _ in range(chance.randint(1, 5))]
            if common(*log) > 60:
                continue
            self.assertEqual(whole(first_log(log)), whole(log))
            order = list(range(len(log)))
            chance.shuffle(order)
            if swaps(log, order) is not None:
                self.assertEqual(whole([log[index] for index in order]), whole(log))
            self.assertLessEqual(outcomes(log), classes(log))
            if len(log) > 1 and pass_each_other(log[-2], log[-1]):
                self.assertEqual(merged(log[:-2], log[-2:-1], log[-1:]), whole(log))
                self.assertIsNotNone(merged(few[:1] + log[:-2], log[-2:-1], log[-1:]))


class TestFramesAndRests(unittest.TestCase):
    def test_frames_are_rests(self):
        done = 0
        for chance, house, script, form in small_cases(1341, 150, [[1, 2], [2], [2, 4]]):
            frame = [(chance.choice("us"), 1) if len(house.accounts) > 1 else (chance.choice("us"), chance.randint(1, 3))
                     for _ in house.accounts]
            made = framed(form, frame)
            self.assertEqual(made, joined(form, frame_form(frame)))
            box = [(-2 ** (bits - 1), 2 ** (bits - 1) - 1) if word == "s" else (0, 2 ** bits - 1) for word, bits in frame]
            self.assertEqual(spills(form, frame) is None, leaving([form], box) is None)
            if common(made) <= 60:
                first, length = comes_round(made)
                many = [comes_round_at(made, state) for state in states_for(chance, len(frame), 6, 50)]
                self.assertTrue(all(early <= first and length % late == 0 for early, late in many))
                self.assertEqual(power(made, first), power(made, first + length))
                done += 1
            once = stepwise(house, script, frame)
            self.assertEqual(joined(once, frame_form(frame)), once)
            self.assertEqual(joined(frame_form(frame), once), once)
        self.assertGreater(done, 40)

    def test_as_many_maps_as_times(self):
        done = 0
        for _, house, script, form in small_cases(1342, 80, [[2], [2, 3]]):
            again = comes_round(form)
            if again is not None and sum(again) <= 6 and len(house.scripts) < 12:
                more = house.with_script("one", script)
                self.assertEqual(unlike_maps(more, ["one"], 6), sum(again))
                done += 1
        self.assertGreater(done, 10)

    def test_weights_against_a_goal(self):
        chance = random.Random(1343)
        done = 0
        for _ in range(100):
            shifts = [[chance.randint(-3, 3) for _ in range(3)] for _ in range(2)]
            goal = [chance.randint(-5, 5) for _ in range(3)]
            shown = against(shifts, goal)
            self.assertEqual(shown is None, way(shifts, goal) is not None)
            if shown is not None and shown[1] == 0:
                for row in shifts:
                    self.assertEqual(weighted_sum(shown[0], row), 0)
                    form = ([1] * 3, [(same_map(3)[1][0][0], row)])
                    self.assertTrue(closes(([1] * 3, [([shown[0]], [0])]), form))
                done += 1
        self.assertGreater(done, 20)

    def test_wishes_and_plans_and_far_times(self):
        for chance, house, script, form in small_cases(1344, 80, [[1, 2], [2]]):
            more = house.with_script("one", script)
            state = [chance.randint(-3, 3) for _ in house.accounts]
            goal = form_at(power(form, chance.randint(0, 3)), state)
            plan = fewest(more, ["one"], state, goal, 4)
            self.assertEqual(wish(same_map(len(state)), [form], state, goal, 4), [0] * len(plan))
            self.assertEqual(after(form, state, len(plan), 7), [amount % 7 for amount in goal])

    def test_calendars_of_two_wishes(self):
        """Both of two wishes of one state are met at the numbers of `both` of their calendars."""
        for chance, _, script, form in small_cases(1345, 60, [[1, 2], [3], [2, 3]]):
            state = [chance.randint(-3, 3) for _ in form[0]]
            weights = [[chance.randint(-2, 2) for _ in form[0]] for _ in range(2)]
            moduli = [chance.choice([2, 3]), 2]
            if math.lcm(6, *form[0]) ** len(state) > 600:
                continue
            wishes = [times_when(form, state, row, modulus, chance.randrange(modulus))
                      for row, modulus in zip(weights, moduli)]
            for times in range(30):
                self.assertEqual(is_on(both(*wishes), times), all(is_on(told_wish, times) for told_wish in wishes))

    def test_each_state_comes_round(self):
        """A map comes round exactly if each state does, behind the greatest first number and the common length."""
        found = {True: 0, False: 0}
        for _, _, _, form in small_cases(1346, 120, [[1, 2], [3], [1]]):
            modulus = math.lcm(*form[0])
            states = [list(rests) for rests in all_rests([2 * modulus] * len(form[0]))][:600]
            lots = [comes_round_at(form, state) for state in states]
            again = comes_round(form)
            if again is not None:
                self.assertEqual((max(first for first, _ in lots), math.lcm(*[length for _, length in lots])), again)
            else:
                self.assertTrue(None in lots or modulus > 2)
            found[again is not None] += 1
        self.assertGreater(min(found.values()), 10)
