"""Promises 1 to 7 of cells.py: kept states, scripts kept step by step or late, spills, keeps, least cells."""

import itertools
import math
import random
import unittest

from accountmaps.boxes import hull, leaving
from accountmaps.cells import cells_for, fewest_keeps, first_early, frame_form, frame_of, framed, is_late, kept_as
from accountmaps.cells import same_kept, spills, stepwise
from accountmaps.deeds import map_of
from accountmaps.errors import InvalidBox, InvalidCell, InvalidForm, InvalidState, UnknownName
from accountmaps.houses import House
from accountmaps.maps import alike, at, joined, least, same_map
from accountmaps.rounds import comes_round
from tests.helping import are_apart, cases, error_of, form_at, plain_deed, plain_value, refused, some_calm_map, some_form
from tests.helping import some_results, spoil, spoilt_forms, states_for, told_wider

CELLS = [(word, bits) for word in "us" for bits in range(1, 5)]
FRAMES = [[None], [("u", 1)], [("s", 1)], [("u", 3)], [("s", 4)], [("u", 4)], [None, None], [("u", 1), None],
          [None, ("s", 2)], [("u", 2), ("s", 3)], [("s", 1), None, ("u", 2)], [("u", 1), ("s", 1), ("s", 2)],
          [None, ("u", 2), None], [("u", 1), None, ("s", 2), None], [("u", 1), ("s", 1), ("s", 1), ("u", 2)]]
FIVE, ONE_HOUSE = ([1], [([[1]], [5])]), House(["a"], [])


def span(cell):
    word, bits = cell
    return (0, 2 ** bits - 1) if word == "u" else (-2 ** (bits - 1), 2 ** (bits - 1) - 1)


def kept_in(cell, amount):
    """What a cell keeps of an amount, found by trying all that it can keep."""
    if cell is None:
        return amount
    low, high = span(cell)
    return [one for one in range(low, high + 1) if (one - amount) % 2 ** cell[1] == 0][0]


def kept_state(frame, state):
    return [kept_in(cell, amount) for cell, amount in zip(frame, state)]


def kept_states(frame, far):
    """The states that a frame keeps as they are, the others no further from nought than so far."""
    sides = [range(-far, far + 1) if cell is None else range(span(cell)[0], span(cell)[1] + 1) for cell in frame]
    return [list(state) for state in itertools.product(*sides)]


def in_order(states):
    return sorted(states, key=lambda state: (max(abs(amount) for amount in state), state))


class Keeper:
    """Does scripts as DOC.md says, with all kept behind each deed, or behind some deeds alone."""

    def __init__(self, house, frame):
        self.accounts, self.scripts, self.frame = house.accounts, dict(house.scripts), frame

    def keep(self, amounts):
        for name, amount in zip(self.accounts, kept_state(self.frame, [amounts[name] for name in self.accounts])):
            amounts[name] = amount

    def deed(self, deed, amounts, keeps):
        word = deed[0]
        if word in ("set", "put", "move", "swap"):
            plain_deed({}, deed, amounts)
        elif word == "do":
            self.script(self.scripts[deed[1]], amounts, keeps)
        elif word == "times":
            for _ in range(deed[1]):
                self.script(deed[2], amounts, keeps)
        else:
            right = plain_value(("rest", deed[1], deed[2]), amounts) in deed[3]
            self.script(deed[4] if right else deed[5], amounts, keeps)
        if keeps:
            self.keep(amounts)

    def script(self, script, amounts, keeps):
        for deed in script:
            self.deed(deed, amounts, keeps)

    def run(self, script, state, indexes=None):
        """The state behind a script, with all kept behind all deeds, or at first, behind some, and at the end."""
        amounts = dict(zip(self.accounts, state))
        self.keep(amounts)
        for index, deed in enumerate(script):
            self.deed(deed, amounts, indexes is None)
            if indexes is not None and index in indexes:
                self.keep(amounts)
        self.keep(amounts)
        return [amounts[name] for name in self.accounts]


def framed_cases(seed, many):
    """Made-up tuples (chance, house, script, frame) with few rests."""
    chance = random.Random(seed)
    for _, accounts, scripts, script in cases(seed, many, [[1, 2], [2, 3], [4], [2]], 3):
        fitting = [frame for frame in FRAMES if len(frame) == len(accounts)]
        yield chance, House(accounts, scripts), script, chance.choice(fitting)


def is_small(frame, *forms):
    """Whether the moduli of some forms and of a frame multiply to few enough, and to very few at the other accounts."""
    moduli = [math.lcm(*[form[0][place] for form in forms], 2 ** cell[1] if cell else 1)
              for place, cell in enumerate(frame)]
    free = [modulus for modulus, cell in zip(moduli, frame) if cell is None]
    return math.prod(moduli) <= 60 and math.prod(free) <= 12


class TestKept(unittest.TestCase):
    def test_cells(self):
        for cell in CELLS:
            for amount in list(range(-40, 41)) + [10 ** 9, -10 ** 9, 10 ** 30 + 5, -10 ** 30 - 7]:
                self.assertEqual(kept_as([cell], [amount]), [kept_in(cell, amount)])
                self.assertEqual(kept_as([None, cell], [amount, amount]), [amount, kept_in(cell, amount)])
        self.assertEqual(kept_as([("u", 3), None], [9, -5]), [1, -5])
        self.assertEqual(kept_as(state=[5], frame=[("s", 3)]), [-3])
        self.assertEqual(kept_as([None] * 4, [1, -2, 3, 10 ** 9]), [1, -2, 3, 10 ** 9])
        state = [3]
        kept_as([None], state).append(1)
        self.assertEqual(state, [3])

    def test_frame_form(self):
        for frame in FRAMES + [[cell] for cell in CELLS]:
            form = frame_form(frame)
            self.assertEqual(form[0], [2 ** cell[1] if cell else 1 for cell in frame])
            self.assertEqual(form, least(form))
            self.assertTrue(are_apart(form))
            for state in states_for(random.Random(901), len(frame), 10, 10 ** 9):
                self.assertEqual(form_at(form, state), kept_state(frame, state))
                self.assertEqual(kept_as(frame, state), kept_state(frame, state))
            self.assertTrue(alike(joined(form, form), form))
        self.assertEqual(frame_form([None, None]), same_map(2))
        self.assertEqual(frame_form(frame=[("u", 1)]), ([2], [([[0]], [0]), ([[0]], [1])]))

    def test_wrong_cells(self):
        for wrong in (("u", 0), ("u", 5), ("s", -1), ("s", 10 ** 9), ("x", 3), ("", 1)):
            for call in (lambda: kept_as([None, wrong, ("u", 9)], [1]), lambda: frame_form([("u", 1), wrong]),
                         lambda: framed(FIVE, [wrong, None]), lambda: spills(FIVE, [wrong, None]),
                         lambda: same_kept(FIVE, FIVE, [wrong, ()]), lambda: stepwise(ONE_HOUSE, [], [None, wrong]),
                         lambda: is_late(ONE_HOUSE, [], [wrong]), lambda: first_early(ONE_HOUSE, [], [wrong, None]),
                         lambda: fewest_keeps(ONE_HOUSE, [], [None, wrong]), lambda: kept_as(state=[], frame=[wrong])):
                self.assertEqual(error_of(call), (InvalidCell, wrong))
        for state in ([], [1, 2, 3]):
            self.assertEqual(error_of(kept_as, [None, ("u", 1)], state), (InvalidState, state))


class TestStepwise(unittest.TestCase):
    def test_step_by_step(self):
        kinds = {True: 0, False: 0}
        for chance, house, script, frame in framed_cases(911, 250):
            form, keeper = stepwise(house, script, frame), Keeper(house, frame)
            for state in states_for(chance, len(frame), 3, 10 ** 6):
                self.assertEqual(at(form, state), keeper.run(script, state))
            self.assertEqual(form, least(form))
            kinds[form == framed(map_of(house, script), frame) if math.prod(form[0]) <= 60 else True] += 1
        self.assertGreater(min(kinds.values()), 20)

    def test_two_scripts(self):
        for chance, house, script, frame in framed_cases(912, 120):
            second = [("put", house.accounts[0], ("number", 7)), ("do", house.scripts[0][0])] if len(house) else script
            first, then = stepwise(house, script, frame), stepwise(house, second, frame)
            if is_small(frame, first, then):
                self.assertEqual(stepwise(house, script + second, frame), joined(first, then))

    def test_as_written(self):
        house = House(["a", "b"], [("more", [("put", "a", ("number", 6)), ("put", "b", ("account", "a"))])])
        frame = [("u", 3), None]
        self.assertEqual(at(stepwise(house, [("do", "more")], frame), [5, 0]), [3, 3])
        self.assertEqual(at(stepwise(house, [("times", 3, [("do", "more")])], frame), [0, 0]), [2, 12])
        # What a formula is on its way is not kept.
        self.assertEqual(at(stepwise(house, [("set", "b", ("plus", ("account", "a"), ("number", 9)))], frame), [5, 0]), [5, 14])
        self.assertEqual(at(stepwise(house, [("set", "a", ("times", 3, ("times", 3, ("account", "a"))))], frame), [5, 0]),
                         [5, 0])
        self.assertEqual(at(stepwise(house, [], frame), [13, 13]), [5, 13])
        self.assertEqual(stepwise(house, [], [None, None]), same_map(2))
        self.assertEqual(at(stepwise(house, [("swap", "a", "b")], [("u", 3), ("s", 2)]), [5, 1]), [1, 1])
        self.assertEqual(stepwise(frame=frame, script=[("do", "more")], house=house), stepwise(house, house["more"], frame))

    def test_cells_are_written_rests(self):
        for chance, house, script, frame in framed_cases(913, 120):
            written = []
            for name, cell in zip(house.accounts, frame):
                if cell:
                    low, whole = span(cell)[0], 2 ** cell[1]
                    rest = ("rest", ("less", ("account", name), ("number", low)), whole)
                    written.append(("set", name, ("plus", rest, ("number", low))))
            plain = [deed for deed in script if deed[0] in ("set", "put", "move", "swap")]
            long = written + [one for deed in plain for one in [deed] + written]
            self.assertEqual(stepwise(house, plain, frame), map_of(house, long))
            self.assertEqual(frame_form(frame), map_of(house, written))


class TestLate(unittest.TestCase):
    def test_late_and_early(self):
        kinds = {True: 0, False: 0}
        for chance, house, script, frame in framed_cases(921, 300):
            if not is_small(frame, stepwise(house, script, frame)) or not is_small(frame, map_of(house, script)):
                continue
            keeper = Keeper(house, frame)
            late, early = is_late(house, script, frame), first_early(house, script, frame)
            self.assertEqual(late, early is None)
            kinds[late] += 1
            far = max([4 - len(frame)] + [abs(amount) for amount in early or []])
            right = [state for state in in_order(kept_states(frame, far))
                     if keeper.run(script, state) != keeper.run(script, state, [])]
            self.assertEqual(early, right[0] if right else None)
        self.assertGreater(min(kinds.values()), 15)

    def test_as_the_head_says(self):
        script = [("put", "a", ("number", 5)), ("set", "a", ("rest", ("account", "a"), 3))]
        self.assertFalse(is_late(ONE_HOUSE, script, [("u", 3)]))
        self.assertEqual(first_early(ONE_HOUSE, script, [("u", 3)]), [3])
        self.assertTrue(is_late(script=script[:1], frame=[("u", 3)], house=ONE_HOUSE))
        self.assertIsNone(first_early(script=script[:1], frame=[("u", 3)], house=ONE_HOUSE))
        self.assertTrue(is_late(ONE_HOUSE, [], [("s", 1)]))
        self.assertTrue(is_late(ONE_HOUSE, script, [None]))
        # The first state of all that count: those that the frame does not keep do not, near as they may be.
        self.assertEqual(first_early(ONE_HOUSE, [("put", "a", ("number", 1))] + script[1:], [("u", 2)]), [3])
        house = House(["a", "b"], [])
        over = [("put", "a", ("account", "b")), ("set", "b", ("rest", ("account", "a"), 3))]
        self.assertEqual(first_early(house, over, [("u", 2), None]), [0, -1])

    def test_cells_of_the_same_bits(self):
        """If each account has a cell, all of the same bits, and all moduli divide what it keeps, a script is late."""
        for chance, accounts, scripts, script in cases(922, 150, [[1, 2], [2], [2, 4]], 3):
            bits = 2 if len(accounts) < 3 else 1
            moduli = str([scripts, script])
            if bits == 1 and ", 4)" in moduli or bits == 1 and " 4, [" in moduli:
                continue
            frame = [(chance.choice("us"), bits) for _ in accounts]
            self.assertTrue(is_late(House(accounts, scripts), script, frame))


class TestSpills(unittest.TestCase):
    def test_framed(self):
        chance = random.Random(931)
        for frame in FRAMES * 4:
            form = some_form(chance, [chance.choice([1, 1, 2]) for _ in frame], 3)
            if is_small(frame, form):
                made = framed(form, frame)
                self.assertEqual(made, joined(form, frame_form(frame)))
                self.assertEqual(made, framed(told_wider(form, [2] * len(frame)), frame))
                for state in states_for(chance, len(frame), 3, 1000):
                    self.assertEqual(form_at(made, state), kept_state(frame, form_at(form, state)))
        self.assertEqual(framed(frame=[None], form=FIVE), FIVE)

    def test_spills(self):
        chance = random.Random(932)
        kinds = {True: 0, False: 0}
        for frame in FRAMES * 14:
            form = some_calm_map(chance, [chance.choice([1, 2, 3]) if len(frame) == 1 else 1 for _ in frame])
            if chance.random() < 0.4:
                form = joined(form, frame_form([chance.choice([cell, ("u", 1)]) for cell in frame]))
            if not is_small(frame, form) or not is_small(frame, joined(form, frame_form(frame))):
                continue
            state = spills(form, frame)
            far = max([5 - len(frame)] + [abs(amount) for amount in state or []])
            right = [one for one in in_order(kept_states(frame, far))
                     if kept_state(frame, form_at(form, one)) != form_at(form, one)]
            self.assertEqual(state, right[0] if right else None)
            kinds[state is None] += 1
            if None not in frame:
                self.assertEqual(state is None, leaving([form], [span(cell) for cell in frame]) is None)
                if 2 ** (max(bits for _, bits in frame) * len(frame)) <= 60:
                    self.assertIsNotNone(comes_round(framed(form, frame)))
        self.assertGreater(min(kinds.values()), 20)

    def test_edges_of_spills(self):
        self.assertEqual(spills(FIVE, [("u", 3)]), [3])
        self.assertEqual(spills(frame=[("s", 3)], form=FIVE), [0])
        self.assertEqual(spills(([1], [([[1]], [-4])]), [("s", 3)]), [-1])
        self.assertEqual(spills(FIVE, [("s", 4)]), [3])
        self.assertIsNone(spills(FIVE, [None]))
        self.assertIsNone(spills(([1], [([[0]], [7])]), [("u", 3)]))
        self.assertEqual(spills(([1], [([[0]], [8])]), [("u", 3)]), [0])
        self.assertEqual(spills(([1], [([[0]], [-1])]), [("u", 3)]), [0])
        over = ([1, 1], [([[1, 0], [0, 1]], [0, 0])])
        self.assertIsNone(spills(over, [("u", 1), None]))
        self.assertEqual(spills(([1, 1], [([[0, 1], [0, 1]], [0, 0])]), [("u", 1), None]), [0, -1])
        self.assertEqual(spills(([1, 1], [([[1, 0], [1, 0]], [0, 0])]), [None, ("u", 1)]), [-1, 0])
        # A far cell, and an account that is free: what lies nearer keeps all in its cells.
        far = ([16, 1], [([[1, 0], [0, 1]], [1 if rest == 15 else 0, 0]) for rest in range(16)])
        self.assertEqual(spills(far, [("u", 4), None]), [15, -15])

    def test_same_kept(self):
        chance = random.Random(933)
        kinds = {True: 0, False: 0}
        for frame in FRAMES * 10:
            one = some_calm_map(chance, [1] * len(frame))
            moduli, pieces = one
            other = (moduli, [(matrix, [amount + (2 ** cell[1] if cell else 0) * chance.randint(-1, 1)
                                        for amount, cell in zip(amounts, frame)]) for matrix, amounts in pieces])
            if chance.random() < 0.5:
                other = some_calm_map(chance, moduli)
            if not is_small(frame, joined(one, frame_form(frame)), joined(other, frame_form(frame))):
                continue
            right = all(kept_state(frame, form_at(one, state)) == kept_state(frame, form_at(other, state))
                        for state in kept_states(frame, 5 - len(frame)))
            self.assertEqual(same_kept(one, other, frame), right)
            kinds[right] += 1
        self.assertGreater(min(kinds.values()), 20)
        self.assertTrue(same_kept(FIVE, ([1], [([[1]], [-3])]), [("u", 3)]))
        self.assertFalse(same_kept(frame=[("u", 4)], other=([1], [([[1]], [-3])]), one=FIVE))
        # Beyond what the frame keeps they may be unlike.
        self.assertTrue(same_kept(([1], [([[1]], [0])]), frame_form([("u", 2)]), [("u", 2)]))
        self.assertFalse(same_kept(([1], [([[1]], [0])]), frame_form([("u", 2)]), [("u", 3)]))


class TestFewestKeeps(unittest.TestCase):
    def test_made_up(self):
        found = {}
        for chance, house, script, frame in framed_cases(941, 300):
            script = (script + [("put", house.accounts[0], ("number", 3)),
                                ("set", house.accounts[-1], ("rest", ("account", house.accounts[0]), 3))])[:4]
            if not is_small(frame, stepwise(house, script, frame), map_of(house, script)):
                continue
            keeper = Keeper(house, frame)
            states = kept_states(frame, 7 - 2 * len(frame))
            wished = [keeper.run(script, state) for state in states]
            right = None
            for size in range(len(script) + 1):
                for lot in itertools.combinations(range(len(script)), size):
                    if right is None and [keeper.run(script, state, lot) for state in states] == wished:
                        right = list(lot)
            self.assertEqual(fewest_keeps(house, script, frame), right)
            self.assertEqual(right == [], is_late(house, script, frame))
            found[str(right)] = found.get(str(right), 0) + 1
        self.assertLessEqual({"[]", "[0]", "[1]", "None"}, set(found))

    def test_as_the_head_says(self):
        script = [("put", "a", ("number", 5)), ("set", "a", ("rest", ("account", "a"), 3))]
        self.assertEqual(fewest_keeps(ONE_HOUSE, script, [("u", 3)]), [0])
        self.assertEqual(fewest_keeps(ONE_HOUSE, script * 2, [("u", 3)]), [0])
        self.assertEqual(fewest_keeps(frame=[("u", 2)], script=script * 2, house=ONE_HOUSE), [0, 2])
        self.assertEqual(fewest_keeps(ONE_HOUSE, [], [("u", 3)]), [])
        self.assertEqual(fewest_keeps(ONE_HOUSE, script[:1], [("u", 3)]), [])
        # Within a deed nothing is kept.
        self.assertIsNone(fewest_keeps(ONE_HOUSE, [("times", 1, script)], [("u", 3)]))
        house = House(["a"], [("both", script)])
        self.assertIsNone(fewest_keeps(house, [("do", "both")], [("u", 3)]))


class TestLeastCells(unittest.TestCase):
    def least(self, low, high):
        for bits in range(1, 5):
            for word in "us":
                if span((word, bits))[0] <= low and high <= span((word, bits))[1]:
                    return word, bits
        return None

    def test_frame_of(self):
        for low, high in itertools.combinations_with_replacement(range(-12, 19), 2):
            self.assertEqual(frame_of([(low, high)]), [self.least(low, high)])
        self.assertEqual(frame_of([(-1, 2), (0, 9), (0, 99)]), [("s", 3), ("u", 4), None])
        self.assertEqual(frame_of(box=[(0, 0), (-1, -1), (-1, 0), (1, 1), (2, 2), (-10 ** 9, 10 ** 9)]),
                         [("u", 1), ("s", 1), ("s", 1), ("u", 1), ("u", 2), None])
        self.assertEqual([frame_of([(-8, 7)]), frame_of([(-9, 0)]), frame_of([(0, 15)]), frame_of([(0, 16)])],
                         [[("s", 4)], [None], [("u", 4)], [None]])

    def test_cells_for(self):
        chance = random.Random(951)
        for moduli in ([1], [5], [12], [2, 3], [1, 1], [2, 2, 2]):
            for most in (1, 3, 8, 20):
                pieces = [([[0] * len(moduli), [0] * len(moduli)], [chance.randint(-most, most), chance.randint(0, most)])
                          for _ in range(math.prod(moduli))]
                lots = list(zip(*[amounts for _, amounts in pieces]))
                right = [self.least(min(lot), max(lot)) for lot in lots]
                self.assertEqual(cells_for((moduli, pieces)), right)
                pieces[-1][0][0][-1] = 1
                self.assertEqual(cells_for((moduli, pieces)), [None] + right[1:])
        self.assertEqual(cells_for(FIVE), [None])
        self.assertEqual(cells_for(form=([3], [([[0]], [0]), ([[0]], [1]), ([[0]], [2])])), [("u", 2)])
        self.assertEqual(cells_for(frame_form([("s", 2), None, ("u", 4)])), [("s", 2), None, ("u", 4)])

    def test_cells_keep_their_boxes(self):
        chance = random.Random(952)
        for frame in FRAMES:
            if None not in frame:
                box = [span(cell) for cell in frame]
                self.assertEqual(frame_of(box), [("s", bits) if word == "s" else ("u", bits) for word, bits in frame])
                self.assertEqual(hull(frame_form(frame), [(-50, 50)] * len(frame)), box)
                for _ in range(5):
                    form = some_form(chance, [1] * len(frame), 2)
                    self.assertIsNone(leaving([framed(form, frame)], box))
                    self.assertIsNone(spills(framed(form, frame), frame))


class TestErrors(unittest.TestCase):
    def test_forms(self):
        good = some_form(random.Random(961), [2, 1], 3)
        for wrong in list(spoilt_forms(good)) + [some_results(random.Random(962), [1, 1], 1, 2)]:
            for call in (lambda: framed(wrong, [("u", 9)]), lambda: spills(wrong, []), lambda: same_kept(wrong, (), [()]),
                         lambda: same_kept(good, wrong, [("u", 9)]), lambda: framed(frame=[], form=wrong)):
                refused(self, wrong, InvalidForm, call)
        self.assertEqual(error_of(same_kept, good, FIVE, []), (InvalidForm, FIVE))
        for wrong in spoilt_forms(some_results(random.Random(963), [2, 1], 3, 2)):
            self.assertEqual(error_of(cells_for, wrong), (InvalidForm, wrong))

    def test_frames(self):
        for wrong in ([], [None], [("u", 1)] * 3):
            form, house = same_map(2), House(["a", "b"], [])
            for call in (lambda: framed(form, wrong), lambda: spills(form, wrong), lambda: same_kept(form, form, wrong),
                         lambda: stepwise(house, [], wrong), lambda: is_late(house, [], wrong),
                         lambda: first_early(house, [], wrong), lambda: fewest_keeps(frame=wrong, script=[], house=house)):
                kind, held = error_of(call)
                self.assertEqual((kind, held), (InvalidState, wrong))
                self.assertIsNot(held, wrong)

    def test_scripts(self):
        for call in (stepwise, is_late, first_early, fewest_keeps):
            self.assertEqual(error_of(call, ONE_HOUSE, [("do", "a")], [("u", 9)]), (UnknownName, "a"))
            self.assertEqual(error_of(call, frame=[], script=[("swap", "a", "zz")], house=ONE_HOUSE), (UnknownName, "zz"))

    def test_boxes(self):
        for wrong in ([(1, 0)], [(0, 1), (5, -5)], []):
            kind, held = error_of(frame_of, wrong)
            self.assertEqual((kind, held), (InvalidBox, wrong))
            self.assertIsNot(held, wrong)

    def test_what_is_passed_stays(self):
        frame, script = [("u", 2), None], [("put", "a", ("number", 1)), ("times", 2, [("swap", "a", "b")])]
        house, form = House(["a", "b"], []), some_form(random.Random(964), [1, 1], 2)
        before = repr([frame, script, form])
        for made in (stepwise(house, script, frame), first_early(house, script, frame), framed(form, frame),
                     spills(form, frame), fewest_keeps(house, script, frame), frame_form(frame), cells_for(form)):
            spoil(made)
        self.assertEqual(repr([frame, script, form]), before)
        script[1][2].append(("swap", "b", "a"))
        self.assertEqual(house, House(["a", "b"], []))
