"""Promises 8 to 12 of piles.py: needs and gains, forms, tidied shifts, programs that do the same, and those of scripts."""

import math
import random
import unittest

from accountmaps.deeds import form_of, map_of, run, value
from accountmaps.houses import House
from accountmaps.maps import joined, same_map
from accountmaps.piles import as_map, formula_program, gain, highest, need, parted, pile_form, program_of, run_on
from accountmaps.piles import same_programs, tidied
from accountmaps.readings import read_script
from accountmaps.rounds import power
from accountmaps.texts import show_script
from tests.helping import are_apart, cases, form_at, is_least, some_formula, spoil, states_for

NAMES = ["cash", "day"]
HOUSE = House(NAMES, [])
MORE = [("read", "cash"), ("push", 3), ("plus",), ("write", "cash")]


def plain_words(program, amounts, pile):
    """Do a program as DOC.md says: the amounts and the pile are changed."""
    for word in program:
        name = word[0]
        if name == "push":
            pile.append(word[1])
        elif name == "read":
            pile.append(amounts[word[1]])
        elif name == "write":
            amounts[word[1]] = pile.pop()
        elif name == "shift":
            taken = [pile.pop() for _ in range(word[1])]
            pile.extend([taken[place - 1] for place in word[2]])
        elif name in ("plus", "less"):
            upper, lower = pile.pop(), pile.pop()
            pile.append(lower + upper if name == "plus" else lower - upper)
        elif name == "times":
            pile.append(word[1] * pile.pop())
        elif name == "rest":
            pile.append(pile.pop() % word[1])
        elif name == "choose":
            plain_words(word[3] if pile.pop() % word[1] in word[2] else word[4], amounts, pile)
        else:
            for _ in range(word[1]):
                plain_words(word[2], amounts, pile)


def plain_run_on(names, program, state, pile):
    amounts, pile = dict(zip(names, state)), list(pile)
    plain_words(program, amounts, pile)
    return [amounts[name] for name in names], pile


def heights(program):
    """All lists of tuples (things ahead of a word less its need, things behind it), from 0 on, of all ways to go."""
    lots = [(0, [])]
    for word in program:
        more = []
        for height, seen in lots:
            for end, steps in word_heights(word):
                more.append((height + end, seen + [(height + low, height + then) for low, then in steps]))
        lots = more
    return lots


def word_heights(word):
    name = word[0]
    if name == "choose":
        return [(end - 1, [(-1, -1)] + [(low - 1, then - 1) for low, then in steps])
                for inner in word[3:] for end, steps in heights(inner)]
    if name == "repeat":
        return heights(word[2] * word[1])
    needs = {"push": 0, "read": 0, "write": 1, "plus": 2, "less": 2, "times": 1, "rest": 1}.get(name)
    gains = {"push": 1, "read": 1, "write": -1, "plus": -1, "less": -1, "times": 0, "rest": 0}.get(name)
    if name == "shift":
        needs, gains = word[1], len(word[2]) - word[1]
    return [(gains, [(-needs, gains)])]


def shift_word(chance, most=3):
    needs = chance.randint(0, most)
    return ("shift", needs, [chance.randint(1, needs) for _ in range(chance.randint(0, most + 1))] if needs else [])


def some_word(chance, names, moduli, deep):
    name = chance.choice(["push", "read", "write", "shift", "shift", "plus", "less", "times", "rest", "choose", "repeat"])
    if deep == 0 and name in ("choose", "repeat"):
        name = "read"
    if name in ("read", "write"):
        return (name, chance.choice(names))
    if name == "push" or name == "times":
        return (name, chance.randint(-3, 3))
    if name == "rest":
        return (name, chance.choice(moduli))
    if name == "shift":
        return shift_word(chance)
    if name == "repeat":
        return (name, chance.randint(0, 3), some_program(chance, names, moduli, deep - 1, 3))
    if name == "choose":
        modulus = chance.choice(moduli)
        one, other = [some_program(chance, names, moduli, deep - 1, 2) for _ in range(2)]
        while plain_gain(one) != plain_gain(other):
            shorter = one if plain_gain(one) < plain_gain(other) else other
            shorter.append(chance.choice([("push", 2), ("read", names[0])]))
        return (name, modulus, [rest for rest in range(modulus) if chance.random() < 0.5], one, other)
    return (name,)


def some_program(chance, names, moduli, deep, most):
    return [some_word(chance, names, moduli, deep) for _ in range(chance.randint(0, most))]


def plain_gain(program):
    return heights(program)[0][0]


def program_cases(seed, many, most=6):
    """Made-up tuples (chance, names, program)."""
    chance = random.Random(seed)
    for _ in range(many):
        names = NAMES[:chance.randint(1, 2)]
        yield chance, names, some_program(chance, names, chance.choice([[2], [1, 3], [2, 4]]), 2, most)


def is_small(names, *programs):
    """Whether programs ask for few things and few rests, as `pile_form` takes them."""
    if len(names) + max(need(program) for program in programs) > 6:
        return False
    house = House(names, [])
    return all(math.prod(pile_form(house, program)[0]) <= 60 for program in programs)


class TestNeeds(unittest.TestCase):
    def test_need_gain_and_highest(self):
        for chance, names, program in program_cases(1001, 500):
            lots = heights(program)
            if len(lots) > 300:
                continue
            needed = max([0] + [-low for _, steps in lots for low, _ in steps])
            most = max([0] + [then for _, steps in lots for _, then in steps])
            self.assertEqual((need(program), gain(program), highest(program)), (needed, lots[0][0], most))
            pile = [chance.randint(-9, 9) for _ in range(needed)]
            self.assertEqual(run_on(House(names, []), program, [1] * len(names), pile),
                             plain_run_on(names, program, [1] * len(names), pile))

    def test_edges(self):
        self.assertEqual([need([]), gain([]), highest([])], [0, 0, 0])
        for word, needs, gains, most in ((("push", 1), 0, 1, 1), (("read", "a"), 0, 1, 1), (("write", "a"), 1, -1, 0),
                                         (("plus",), 2, -1, 0), (("less",), 2, -1, 0), (("times", 0), 1, 0, 0),
                                         (("rest", 1), 1, 0, 0), (("shift", 0, []), 0, 0, 0),
                                         (("shift", 24, []), 24, -24, 0), (("shift", 24, [24] * 24), 24, 0, 0),
                                         (("shift", 1, [1] * 24), 1, 23, 23), (("repeat", 0, [("plus",)] * 9), 0, 0, 0)):
            self.assertEqual([need([word]), gain([word]), highest([word])], [needs, gains, most])
        # Both programs of a word are counted, whatever can come.
        both = [("push", 0), ("choose", 1, [0], [("push", 1)], [("shift", 4, [1, 1, 1, 1, 1])])]
        self.assertEqual([need(both), gain(both), highest(both)], [4, 1, 1])
        high = [("push", 0), ("choose", 1, [], [("push", 1), ("push", 1), ("write", "a"), ("write", "a")], [])]
        self.assertEqual([need(high), gain(high), highest(high)], [0, 0, 2])
        self.assertEqual([need(program=both), gain(program=both), highest(program=both)], [4, 1, 1])

    def test_very_often(self):
        often = 10 ** 30
        self.assertEqual(need([("repeat", often, [("plus",)])]), often + 1)
        self.assertEqual(gain([("repeat", often, [("repeat", often, [("push", 1)])])]), often ** 2)
        self.assertEqual(highest([("repeat", often, [("push", 1), ("push", 1), ("plus",)])]), often + 1)
        self.assertEqual(need([("repeat", often, [("push", 1), ("push", 2), ("less",)])]), 0)
        self.assertEqual(need([("repeat", often, [("shift", 3, [1])]), ("plus",)]), 2 * often + 2)
        self.assertEqual(highest([("repeat", often, [("plus",), ("push", 1), ("push", 1), ("plus",)])]), 1)
        self.assertEqual(highest([("repeat", often, [("plus",)])]), 0)
        deep = [("push", 1)]
        for _ in range(7):
            deep = [("repeat", 10, deep), ("repeat", 0, deep)]
        self.assertEqual([need(deep), gain(deep), highest(deep)], [0, 10 ** 7, 10 ** 7])
        nothing = []
        for _ in range(8):
            nothing = [("repeat", 40, nothing), ("repeat", 0, MORE)]
        self.assertEqual(run_on(HOUSE, nothing, [1, 2], [3]), ([1, 2], [3]))


class TestRuns(unittest.TestCase):
    def test_as_the_head_says(self):
        self.assertEqual(run_on(House(["cash"], []), MORE, [5], [7]), ([8], [7]))
        self.assertEqual(run_on(pile=[4, 3], state=[0], program=[("choose", 2, [1], [("push", 10)], [("push", 20)])],
                                house=House(["cash"], [])), ([0], [4, 10]))
        self.assertEqual(run_on(HOUSE, [("less",)], [0, 0], [1, 9, 4]), ([0, 0], [1, 5]))
        self.assertEqual(run_on(HOUSE, [("shift", 3, [1, 3, 3])], [0, 0], [0, 1, 2, 3]), ([0, 0], [0, 3, 1, 1]))
        self.assertEqual(run_on(HOUSE, [("rest", 7), ("times", -2)], [0, 0], [-1]), ([0, 0], [-12]))
        great = 10 ** 30 - 1
        self.assertEqual(run_on(HOUSE, [("plus",), ("write", "day")], [0, 0], [5] * 58 + [great, -great]), ([0, 0], [5] * 58))
        state, pile = [1, 2], [3]
        for made in run_on(HOUSE, [], state, pile):
            made.append(9)
        self.assertEqual((state, pile), ([1, 2], [3]))
        counting = [("repeat", 40, [("repeat", 2, MORE)])]
        self.assertEqual(run_on(HOUSE, counting, [0, 0], []), ([240, 0], []))

    def test_pile_forms(self):
        done = 0
        for chance, names, program in program_cases(1011, 400, 5):
            house = House(names, [])
            if not is_small(names, program):
                continue
            form, needed = pile_form(house, program), need(program)
            self.assertEqual((len(form[0]), len(form[1][0][1])), (len(names) + needed, len(names) + needed + gain(program)))
            self.assertTrue(is_least(form) and are_apart(form))
            for amounts in states_for(chance, len(names) + needed, 4, 10 ** 6):
                state, pile = amounts[:len(names)], amounts[len(names):]
                then, left = run_on(house, program, state, [77] + pile[::-1])
                self.assertEqual(form_at(form, amounts), then + left[1:][::-1])
                self.assertEqual(left[0], 77)
            self.assertEqual(as_map(house, program), form if needed == gain(program) == 0 else None)
            done += 1
        self.assertGreater(done, 100)

    def test_edges_of_forms(self):
        one = House(["cash"], [])
        self.assertEqual(pile_form(one, []), same_map(1))
        self.assertEqual(pile_form(one, [("less",)]), ([1, 1, 1], [([[1, 0, 0], [0, -1, 1]], [0, 0])]))
        self.assertEqual(pile_form(one, [("shift", 1, [])]), ([1, 1], [([[1, 0]], [0])]))
        self.assertEqual(pile_form(program=[("push", 4)], house=one), ([1], [([[1], [0]], [0, 4])]))
        self.assertEqual(as_map(one, MORE), ([1], [([[1]], [3])]))
        self.assertEqual(as_map(program=[], house=HOUSE), same_map(2))
        self.assertEqual([as_map(one, [("plus",)]), as_map(one, [("push", 1)]), as_map(one, [("rest", 1)])], [None] * 3)
        self.assertEqual(pile_form(one, [("shift", 5, [])])[0], [1] * 6)
        self.assertEqual(pile_form(one, [("rest", 60)])[0], [1, 60])
        chosen = [("choose", 3, [0, 2], [("shift", 1, [])], [("write", "cash")])]
        self.assertEqual([form_at(pile_form(one, chosen), [5, top, 8]) for top in range(3)], [[5], [8], [5]])


class TestTidied(unittest.TestCase):
    def all_shifts(self, program):
        for word in program:
            if word[0] == "shift":
                yield word
            for part in word:
                if isinstance(part, list):
                    yield from self.all_shifts([one for one in part if isinstance(one, tuple)])

    def neighbours(self, program):
        for one, other in zip(program, program[1:]):
            yield one[0] == other[0] == "shift"
        for word in program:
            for part in word[1:]:
                if isinstance(part, list) and part and isinstance(part[0], tuple):
                    yield from self.neighbours(part)

    def test_made_up(self):
        for chance, names, program in program_cases(1021, 500):
            made, house = tidied(program), House(names, [])
            self.assertEqual(tidied(made), made)
            self.assertTrue(are_apart(made))
            self.assertFalse(any(self.neighbours(made)))
            for _, needs, gives in self.all_shifts(made):
                self.assertNotEqual((needs, gives), (0, []))
                self.assertFalse(gives and gives[0] == needs and gives.count(needs) == 1)
            self.assertEqual((gain(made), need(made) <= need(program)), (gain(program), True))
            state, pile = [3] * len(names), [chance.randint(-9, 9) for _ in range(need(program))]
            self.assertEqual(run_on(house, made, state, pile), run_on(house, program, state, pile))

    def test_shifts_alone(self):
        """They do the same exactly if they are tidied alike."""
        chance = random.Random(1022)
        kinds = {True: 0, False: 0}
        for _ in range(600):
            one = [shift_word(chance, 3) for _ in range(chance.randint(0, 3))]
            other = [shift_word(chance, 2) for _ in range(chance.randint(0, 2))]
            if chance.random() < 0.6:
                other = one + [("shift", 2, [1, 2]), ("shift", 2, [1, 2])][:chance.choice([0, 2])]
                other = [word if chance.random() < 0.8 else ("shift", word[1] + 1, [word[1] + 1] + word[2]) for word in other]
            alike = tidied(one) == tidied(other)
            things = max(need(one), need(other))
            pile = list(range(things))
            right = plain_run_on([], one, [], pile) == plain_run_on([], other, [], pile)
            self.assertEqual(alike, right)
            self.assertLessEqual(len(tidied(one)), 1)
            kinds[alike] += 1
            if things <= 4:
                self.assertEqual(same_programs(HOUSE, one, other), alike)
        self.assertGreater(min(kinds.values()), 30)

    def test_as_the_head_says(self):
        self.assertEqual(tidied([("shift", 1, [1, 1]), ("shift", 2, [2, 1]), ("push", 1), ("shift", 1, [1])]),
                         [("shift", 1, [1, 1]), ("push", 1)])
        self.assertEqual(tidied(program=[]), [])
        self.assertEqual(tidied([("shift", 0, []), ("shift", 3, [3, 2, 1])]), [])
        self.assertEqual(tidied([("shift", 3, [3, 1, 2])]), [("shift", 2, [1, 2])])
        self.assertEqual(tidied([("shift", 2, [2, 2])]), [("shift", 2, [2, 2])])
        self.assertEqual(tidied([("shift", 2, [2, 1, 2])]), [("shift", 2, [2, 1, 2])])
        self.assertEqual(tidied([("shift", 2, [1]), ("shift", 3, [1])]), [("shift", 4, [1])])
        # What stood beside a shift that does nothing are neighbours then.
        self.assertEqual(tidied([("shift", 1, [1, 1]), ("shift", 1, [1]), ("shift", 1, [])]), [])
        self.assertEqual(tidied([("shift", 2, [1, 2]), ("push", 1), ("shift", 2, [1, 2])]),
                         [("shift", 2, [1, 2]), ("push", 1), ("shift", 2, [1, 2])])
        inner = [("shift", 1, [1]), ("shift", 2, [1, 2]), ("shift", 2, [1, 2])]
        self.assertEqual(tidied([("repeat", 0, inner), ("choose", 2, [1], inner, []), ("repeat", 3, [])]),
                         [("repeat", 0, []), ("choose", 2, [1], [], []), ("repeat", 3, [])])
        self.assertEqual(tidied([("shift", 1, [1, 1]), ("repeat", 0, []), ("shift", 1, [])]),
                         [("shift", 1, [1, 1]), ("repeat", 0, []), ("shift", 1, [])])
        wide = [("shift", 24, list(range(1, 25))), ("shift", 24, list(range(1, 25)))]
        self.assertEqual(tidied(wide), [])
        self.assertEqual(tidied(wide[:1]), wide[:1])
        longer = [("shift", 24, [24] * 24), ("push", 1), ("shift", 24, [1] * 24)]
        self.assertEqual(tidied(tidied(longer) + tidied(longer)), tidied(longer + longer))
        program = [("choose", 2, [1], [("shift", 1, [1, 1])], [("shift", 2, [1, 2, 2])])]
        before = repr(program)
        spoil(tidied(program))
        self.assertEqual(repr(program), before)


class TestSamePrograms(unittest.TestCase):
    def check(self, names, one, other):
        house = House(names, [])
        same, found = same_programs(house, one, other), parted(house, one, other)
        if gain(one) != gain(other):
            self.assertEqual((same, found), (False, None))
            return None
        self.assertEqual(same, found is None)
        if found is not None:
            state, pile = found
            self.assertEqual(len(state), len(names))
            self.assertGreaterEqual(len(pile), max(need(one), need(other)))
            self.assertNotEqual(plain_run_on(names, one, state, pile), plain_run_on(names, other, state, pile))
            self.assertTrue(are_apart(found))
        else:
            for state in states_for(random.Random(1031), len(names), 3, 20):
                pile = [7 * place - 5 for place in range(max(need(one), need(other)))]
                self.assertEqual(plain_run_on(names, one, state, pile), plain_run_on(names, other, state, pile))
        return same

    def test_made_up(self):
        kinds = {True: 0, False: 0, None: 0}
        for chance, names, program in program_cases(1032, 300, 4):
            other = some_program(chance, names, [2, 3], 1, 3) if chance.random() < 0.3 else list(program)
            if chance.random() < 0.5:
                place = chance.randint(0, len(other))
                nothing = [[("shift", 2, [2, 1])], [("push", 4), ("shift", 1, [])], [("times", 1)], [("repeat", 0, MORE)],
                           [("shift", 2, [1, 2]), ("shift", 2, [1, 2])], [("times", 2)], [("push", 1), ("plus",)]]
                other = other[:place] + chance.choice(nothing) + other[place:]
            if is_small(names, program, other):
                kinds[self.check(names, program, other)] += 1
        self.assertGreater(min(kinds.values()), 15)

    def test_of_unlike_needs(self):
        self.assertTrue(self.check(NAMES, [("shift", 3, [3, 2, 1])], []))
        self.assertTrue(self.check(NAMES, [("plus",), ("push", 1)], [("plus",), ("push", 1)]))
        self.assertFalse(self.check(NAMES, [("shift", 3, [3, 1, 2])], [("shift", 1, [1])]))
        self.assertIsNone(self.check(NAMES, [("plus",)], []))
        self.assertTrue(self.check(["cash"], MORE, program_of(House(["cash"], []), [("put", "cash", ("number", 3))])))
        # They part at one rest of sixty alone, and there only far from nought.
        rare = [("choose", 60, [59], [("times", 2)], [("times", 1)])]
        at_rest = [("shift", 1, [1, 1])]
        self.assertFalse(self.check(["cash"], at_rest + rare, at_rest + [("choose", 1, [0], [], [])]))
        # They part in all states but one.
        self.assertFalse(self.check(["cash"], [("read", "cash"), ("times", 2), ("write", "cash")],
                                    [("read", "cash"), ("push", 1), ("plus",), ("write", "cash")]))
        one, other = [("push", 0), ("rest", 1)], [("push", 0)]
        self.assertTrue(same_programs(other=other, one=one, house=HOUSE))
        self.assertIsNone(parted(other=other, one=one, house=HOUSE))
        self.assertFalse(self.check(NAMES, [("read", "cash"), ("write", "day")], [("read", "day"), ("write", "cash")]))
        self.assertTrue(self.check(NAMES, [("push", 1), ("choose", 2, [1], MORE, [])], MORE))


class TestProgramsOfScripts(unittest.TestCase):
    def test_formulas(self):
        for chance, accounts, _, _ in cases(1041, 300, [[1, 2]], 3):
            house, formula = House(accounts, []), some_formula(chance, accounts, [2, 3, 7], 4)
            program = formula_program(formula)
            self.assertEqual((need(program), gain(program)), (0, 1))
            self.assertTrue(are_apart(program))
            state, pile = [chance.randint(-10 ** 9, 10 ** 9) for _ in accounts], [chance.randint(-9, 9) for _ in range(3)]
            self.assertEqual(run_on(house, program, state, pile), (state, pile + [value(house, formula, state)]))
        self.assertEqual(run_on(HOUSE, formula_program(formula=("less", ("number", 5), ("account", "day"))), [1, 2], [4]),
                         ([1, 2], [4, 3]))

    def test_scripts(self):
        for chance, accounts, scripts, script in cases(1042, 250, [[1, 2], [2, 3], [4]], 3):
            house = House(accounts, scripts)
            program = program_of(house, script)
            self.assertEqual((need(program), gain(program)), (0, 0))
            self.assertTrue(are_apart(program))
            state, pile = [chance.randint(-10 ** 6, 10 ** 6) for _ in accounts], [4, 5]
            self.assertEqual(run_on(house, program, state, pile), (run(house, script, state), pile))
            form = map_of(house, script)
            if math.prod(form[0]) <= 60:
                self.assertEqual(as_map(house, program), form)
                self.assertEqual(as_map(house, program_of(house, read_script(show_script(script)))), form)
                self.assertTrue(same_programs(house, program, tidied(program)))
        self.assertEqual(program_of(script=[], house=HOUSE), [])
        house = House(["a", "b"], [("half", [("put", "a", ("number", 1))])])
        for script in ([("move", "a", "b", ("account", "a"))], [("move", "a", "b", ("account", "b"))],
                       [("swap", "a", "b")], [("do", "half")], [("times", 0, [("do", "half")])], [("times", 3, [])]):
            self.assertEqual(as_map(house, program_of(house, script)), map_of(house, script))

    def test_put_together(self):
        """Programs one behind the other, the repeated ones as powers, and reports of formulas."""
        done = 0
        for chance, accounts, scripts, script in cases(1043, 120, [[1, 2], [2]], 2):
            house, times = House(accounts, scripts), chance.randint(0, 3)
            program, second = program_of(house, script), program_of(house, [("put", accounts[0], ("number", 2))])
            form = map_of(house, script)
            if math.lcm(*form[0]) ** len(accounts) > 60:
                continue
            self.assertEqual(as_map(house, [("repeat", times, program)]), power(form, times))
            self.assertEqual(as_map(house, program + second), joined(form, as_map(house, second)))
            formula = some_formula(chance, accounts, [2], 1)
            whole = pile_form(house, program + formula_program(formula))
            asked = joined(form, form_of(house, [formula]))
            for state in states_for(chance, len(accounts), 4, 99):
                self.assertEqual(form_at(whole, state), form_at(form, state) + form_at(asked, state))
            done += 1
        self.assertGreater(done, 20)
