"""Promises 1 and 2 of plans.py: plans as all plans tell, for states and for maps."""

import itertools
import random
import unittest

from accountmaps.deeds import map_of, run
from accountmaps.houses import House
from accountmaps.maps import least
from accountmaps.plans import cheapest, fewest, fewest_map, needless, reached, unlike_maps
from tests.helping import plain_run, some_script, spoil, told_wider

CASH, DAY = ("account", "cash"), ("account", "day")
HOUSE = House(["cash", "day"], [("pay", [("put", "cash", ("number", 5))]), ("ten", [("put", "cash", ("number", 10))]),
                                ("night", [("set", "day", ("number", 0))])])


def all_plans(names, most):
    """All plans with at most so many names, in their order."""
    for many in range(most + 1):
        yield from (list(plan) for plan in itertools.product(sorted(names), repeat=many))


def some_scripts(chance, accounts, names, moduli):
    """Scripts of a house, each perhaps a part of those behind it."""
    scripts = []
    for name in names:
        ahead = [other for other, _ in scripts]
        script = some_script(chance, accounts, moduli, ahead, 1)
        if chance.random() < 0.5:
            script = [("put", chance.choice(accounts), ("number", chance.randint(-2, 2)))]
        if ahead and chance.random() < 0.4:
            script = [("do", chance.choice(ahead))] * chance.randint(1, 2) + script[:1]
        scripts.append((name, script))
    return scripts


def houses(seed, many, moduli, most_accounts):
    """Tuples (chance, accounts, scripts, names): up to four names of scripts, in any order."""
    chance = random.Random(seed)
    for _ in range(many):
        accounts = chance.sample(["cash", "day", "a"], chance.randint(1, most_accounts))
        names = chance.sample(["pay", "night", "b", "zz", "cash"], chance.randint(1, 5))
        scripts = some_scripts(chance, accounts, names, moduli)
        yield chance, accounts, scripts, chance.sample(names, chance.randint(1, min(4, len(names))))


class TestStates(unittest.TestCase):
    def check(self, chance, accounts, scripts, names, most):
        house = House(accounts, scripts)
        state = [chance.randint(-4, 4) for _ in accounts]
        made = {}
        for plan in all_plans(names, most):
            done = [("do", name) for name in plan]
            made[tuple(plan)] = plain_run(accounts, scripts, done, state)
        self.assertEqual(reached(house, names, state, most), len({tuple(one) for one in made.values()}))
        goals = [chance.choice(list(made.values())) for _ in range(4)] + [[chance.randint(-4, 4) for _ in accounts]]
        costs = [chance.choice([0, 0, 1, 2, 3, 10 ** 30]) for _ in names]
        prices = dict(zip(names, costs))
        for goal in goals:
            plans = [list(plan) for plan in made if made[plan] == goal]
            self.assertEqual(fewest(house, names, state, goal, most), plans[0] if plans else None)
            priced = [(sum(prices[name] for name in plan), len(plan), plan) for plan in plans]
            expected = (min(priced)[0], min(priced)[2]) if plans else None
            self.assertEqual(cheapest(house, names, costs, state, goal, most), expected)
            told = cheapest(house, names, [1] * len(names), state, goal, most)
            self.assertEqual(told, (len(plans[0]), plans[0]) if plans else None)

    def test_few_names(self):
        for chance, accounts, scripts, names in houses(191, 120, [2, 3, 7], 3):
            self.check(chance, accounts, scripts, names, chance.randint(0, 3))

    def test_longer_plans(self):
        for chance, accounts, scripts, names in houses(192, 40, [2, 5], 2):
            self.check(chance, accounts, scripts, names[:2], 6)

    def test_four_names_six_times(self):
        house = House(["x"], [(name, [("put", "x", ("number", 7 ** place))]) for place, name in enumerate("dbca")])
        self.assertEqual(reached(house, ["a", "b", "c", "d"], [0], 6), 210)
        self.assertEqual(fewest(house, list("cabd"), [0], [343 + 7 + 7 + 1 + 49 + 343], 6), list("aabbcd"))
        self.assertEqual(cheapest(house, list("dbca"), [8, 0, 1, 3], [0], [14 + 49], 6), (1, ["b", "b", "c"]))

    def test_empty_plan(self):
        for names in ([], ["pay"], ["night", "ten", "pay"]):
            self.assertEqual(fewest(HOUSE, names, [3, 4], [3, 4], 0), [])
            self.assertEqual(cheapest(HOUSE, names, [7] * len(names), [3, 4], [3, 4], 6), (0, []))
            self.assertEqual([fewest(HOUSE, names, [3, 4], [8, 4], 0), reached(HOUSE, names, [3, 4], 0)], [None, 1])
        self.assertEqual([reached(HOUSE, [], [1, 2], 6), fewest(HOUSE, [], [1, 2], [1, 3], 6)], [1, None])

    def test_costs(self):
        told = [cheapest(HOUSE, ["pay", "ten"], costs, [0, 0], [20, 0], 4)
                for costs in ([1, 3], [1, 2], [2, 3], [0, 0], [10 ** 30, 10 ** 30 + 1])]
        self.assertEqual(told, [(4, ["pay"] * 4), (4, ["ten"] * 2), (6, ["ten"] * 2), (0, ["ten"] * 2),
                                (2 * 10 ** 30 + 2, ["ten"] * 2)])
        self.assertEqual(cheapest(HOUSE, ["ten", "pay"], [3, 1], [0, 0], [20, 0], 3), (5, ["pay", "pay", "ten"]))
        # A name that costs nothing and does nothing is not done.
        self.assertEqual(cheapest(HOUSE, ["night", "pay"], [0, 0], [0, 0], [5, 0], 3), (0, ["pay"]))

    def test_ordered_as_texts(self):
        house = House(["x"], [("b", [("put", "x", ("number", 1))]), ("ab", [("put", "x", ("number", 1))]),
                              ("aa", [("put", "x", ("number", 1))])])
        self.assertEqual(fewest(house, ["b", "ab", "aa"], [0], [2], 4), ["aa", "aa"])
        self.assertEqual(fewest(house, ["b", "ab"], [0], [2], 4), ["ab", "ab"])

    def test_by_name(self):
        self.assertEqual(fewest(most=4, goal=[20, 0], state=[0, 0], names=["pay", "ten"], house=HOUSE), ["ten", "ten"])
        self.assertEqual(cheapest(most=4, goal=[20, 0], state=[0, 0], costs=[1, 3], names=["pay", "ten"], house=HOUSE),
                         (4, ["pay"] * 4))
        self.assertEqual(reached(most=2, state=[0, 1], names=["pay", "night"], house=HOUSE), 5)
        self.assertEqual(unlike_maps(most=3, names=["night"], house=HOUSE), 2)
        self.assertEqual(needless(most=2, names=["pay", "ten", "night"], house=HOUSE), ["ten"])
        form = map_of(HOUSE, [("do", "ten")])
        self.assertEqual(fewest_map(most=2, form=form, names=["pay"], house=HOUSE), ["pay", "pay"])

    def test_lists(self):
        names, costs, state, goal = ["ten", "pay"], [3, 1], [0, 0], [20, 0]
        form = map_of(HOUSE, [("do", "ten")])
        spoil([fewest(HOUSE, names, state, goal, 4), cheapest(HOUSE, names, costs, state, goal, 4),
               fewest_map(HOUSE, names, form, 2), needless(HOUSE, names, 2)])
        self.assertEqual((names, costs, state, goal), (["ten", "pay"], [3, 1], [0, 0], [20, 0]))
        self.assertEqual(form, map_of(HOUSE, [("do", "ten")]))
        told = fewest(HOUSE, names, state, goal, 4), needless(HOUSE, names, 2)
        spoil([names, state, goal])
        self.assertEqual(told, (["ten", "ten"], ["ten"]))


class TestMaps(unittest.TestCase):
    def check(self, chance, house, names, most):
        made = {}
        for plan in all_plans(names, most):
            made[tuple(plan)] = map_of(house, [("do", name) for name in plan])
        unlike = []
        for form in made.values():
            if form not in unlike:
                unlike.append(form)
        self.assertEqual(unlike_maps(house, names, most), len(unlike))
        other = least(([1] * len(house.accounts), [([[2] * len(house.accounts)] * len(house.accounts),
                                                    [9] * len(house.accounts))]))
        for form in chance.sample(unlike, min(3, len(unlike))) + [other]:
            first = [list(plan) for plan in made if made[plan] == form][:1]
            wider = told_wider(form, [chance.choice([1, 2]) for _ in house.accounts])
            self.assertEqual([fewest_map(house, names, form, most), fewest_map(house, names, wider, most)],
                             [first[0] if first else None] * 2)
        gone = []
        for name in names:
            others = [one for one in names if one != name]
            if any(made[tuple(plan)] == made[(name,)] for plan in all_plans(others, most)) if most > 0 else (
                    map_of(house, [("do", name)]) == made[()]):
                gone.append(name)
        self.assertEqual(needless(house, names, most), sorted(gone))

    def test_made_up(self):
        count = 0
        for chance, accounts, scripts, names in houses(193, 160, [1, 2], 2):
            house = House(accounts, scripts)
            moduli = [modulus for name in names for modulus in map_of(house, [("do", name)])[0]]
            if max(moduli) <= 7:
                count += 1
                self.check(chance, house, names, chance.randint(0, 3) if len(names) < 4 else 2)
        self.assertGreater(count, 100)

    def test_one_name(self):
        for chance, accounts, scripts, names in houses(194, 60, [1, 2, 3], 2):
            house = House(accounts, scripts)
            if max(map_of(house, [("do", names[0])])[0]) <= 7:
                self.check(chance, house, names[:1], 6)

    def test_four_names_three_times(self):
        chance = random.Random(195)
        week = [("put", "x", ("number", 1)), ("set", "x", ("rest", ("account", "x"), 60))]
        scripts = [("a", week), ("b", [("set", "x", ("times", -1, ("account", "x")))]),
                   ("c", [("when", ("account", "x"), 12, [3], [("set", "x", ("number", 4))], [])]), ("d", [("do", "a")])]
        self.check(chance, House(["x"], scripts), ["d", "b", "a", "c"], 3)

    def test_plain(self):
        form = ([1, 1], [([[1, 0], [0, 0]], [5, 0])])
        self.assertEqual(fewest_map(HOUSE, ["pay", "night"], form, 2), ["night", "pay"])
        self.assertEqual([fewest_map(HOUSE, ["pay", "night"], form, 1), fewest_map(HOUSE, [], form, 3)], [None, None])
        self.assertEqual([unlike_maps(HOUSE, ["night"], 3), unlike_maps(HOUSE, ["night"], 0), unlike_maps(HOUSE, [], 3)],
                         [2, 1, 1])
        self.assertEqual([needless(HOUSE, ["pay", "ten", "night"], most) for most in range(3)], [[], [], ["ten"]])
        house = House(["x"], [("none", []), ("one", [("put", "x", ("number", 1))]), ("again", [("do", "one")])])
        self.assertEqual(needless(house, ["one", "none", "again"], 0), ["none"])
        self.assertEqual(needless(house, ["one", "none", "again"], 1), ["again", "none", "one"])
        self.assertEqual([needless(house, ["none"], 0), needless(house, [], 3)], [["none"], []])

    def test_cheapest_with_costs_of_one(self):
        for chance, accounts, scripts, names in houses(196, 40, [2, 3], 2):
            house = House(accounts, scripts)
            state = [chance.randint(-3, 3) for _ in accounts]
            goal = run(house, [("do", chance.choice(names)) for _ in range(3)], state)
            first = fewest(house, names, state, goal, 4)
            self.assertEqual(cheapest(house, names, [1] * len(names), state, goal, 4), (len(first), first))
