"""Promise 2: houses hold scripts, and never change."""

import unittest

from accountmaps.errors import DoubleName, InvalidName, StillUsed, UnknownName
from accountmaps.houses import House
from tests.helping import are_apart, cases, error_of, spoil

PAY = [("put", "cash", ("number", 5))]
WEEK = [("times", 7, [("do", "pay")]), ("when", ("account", "day"), 7, [0, 6], [("do", "pay")], [])]
LATE = [("when", ("account", "day"), 2, [], [], [("times", 0, [("do", "week")])])]


def some():
    """A house with all kinds of scripts within scripts."""
    scripts = [("pay", list(PAY)), ("none", []), ("week", list(WEEK)), ("late", list(LATE)), ("alone", [])]
    return House(["cash", "day"], scripts)


class TestWhatAHouseTells(unittest.TestCase):
    def test_accounts_and_scripts(self):
        house = some()
        self.assertEqual(house.accounts, ["cash", "day"])
        self.assertEqual(house.scripts,
                         [("pay", PAY), ("none", []), ("week", WEEK), ("late", LATE), ("alone", [])])
        self.assertEqual([isinstance(pair, tuple) for pair in house.scripts], [True] * 5)

    def test_by_name(self):
        house = House(accounts=["cash"], scripts=[("pay", PAY)])
        self.assertEqual((house.accounts, house.scripts), (["cash"], [("pay", PAY)]))

    def test_methods_stand_in_the_class(self):
        for name in ("__init__", "accounts", "scripts", "__getitem__", "with_script", "without_script", "users",
                     "__len__", "__eq__"):
            self.assertIn(name, vars(House))

    def test_len(self):
        self.assertEqual([len(some()), len(House(["a"], []))], [5, 0])

    def test_script_by_its_name(self):
        house = some()
        self.assertEqual([house["pay"], house["none"], house["week"]], [PAY, [], WEEK])

    def test_script_that_there_is_not(self):
        for name in ("cash", "day", "", "paying", "PAY"):
            self.assertEqual(error_of(some().__getitem__, name), (UnknownName, name))

    def test_account_and_script_of_one_name(self):
        house = House(["cash"], [("cash", PAY), ("do", [("do", "cash")])])
        self.assertEqual((house["cash"], house.users("cash")), (PAY, ["do"]))

    def test_names_at_their_bounds(self):
        names = ["a", "z", "abcdefgh", "stuvwxyz"]
        self.assertEqual(House(names, [(name, []) for name in names]).accounts, names)

    def test_many_accounts_and_scripts(self):
        names = [one + other for one in "abcde" for other in "uvwxyz"]
        scripts = [(name, [("do", before) for before in names[:place]][-3:]) for place, name in enumerate(names)]
        house = House(names, scripts)
        self.assertEqual((house.accounts, house.scripts, len(house)), (names, scripts, 30))
        self.assertEqual(house.users("au"), sorted(names[1:]))


class TestUsers(unittest.TestCase):
    def test_themselves_or_by_others(self):
        house = some()
        found = [house.users(name) for name in ("pay", "none", "week", "late", "alone")]
        self.assertEqual(found, [["late", "week"], [], ["late"], [], []])

    def test_in_both_scripts_of_a_when(self):
        one = [("when", ("number", 1), 1, [], [("do", "pay")], [])]
        other = [("when", ("number", 1), 1, [], [], [("times", 2, [("do", "pay")])])]
        house = House(["cash"], [("pay", PAY), ("zz", one), ("other", other)])
        self.assertEqual(house.users(name="pay"), ["other", "zz"])

    def test_unknown(self):
        self.assertEqual(error_of(some().users, "cash"), (UnknownName, "cash"))

    def test_new_each_time(self):
        house = some()
        house.users("pay").append("spoilt")
        self.assertEqual(house.users("pay"), ["late", "week"])


class TestWithAndWithout(unittest.TestCase):
    def test_with(self):
        house = some()
        more = house.with_script("more", [("do", "late"), ("do", "pay")])
        self.assertEqual(more.scripts, house.scripts + [("more", [("do", "late"), ("do", "pay")])])
        self.assertEqual((len(house), len(more), more.accounts), (5, 6, ["cash", "day"]))
        self.assertEqual(more.users("pay"), ["late", "more", "week"])
        self.assertEqual(more, house.with_script(name="more", script=[("do", "late"), ("do", "pay")]))

    def test_without(self):
        house = some()
        less = house.without_script("none")
        self.assertEqual([name for name, _ in less.scripts], ["pay", "week", "late", "alone"])
        self.assertEqual(house, some())
        self.assertEqual(less.without_script(name="late").without_script("week").without_script("pay").scripts,
                         [("alone", [])])
        self.assertEqual(len(less.without_script("alone")), 3)

    def test_with_behind_without(self):
        house = some()
        self.assertEqual(house.without_script("alone").with_script("alone", []), house)
        self.assertNotEqual(house.without_script("none").with_script("none", []), house)

    def test_still_used_by_the_first(self):
        house = some().with_script("again", [("do", "week"), ("do", "pay")]).with_script("also", [("do", "late")])
        self.assertEqual(error_of(house.without_script, "pay"), (StillUsed, "week"))
        self.assertEqual(error_of(house.without_script, "week"), (StillUsed, "late"))
        self.assertEqual(error_of(house.without_script, "late"), (StillUsed, "also"))
        self.assertEqual(error_of(house.without_script, "cash"), (UnknownName, "cash"))

    def test_elder_houses_stay(self):
        first = House(["cash"], [])
        second = first.with_script("pay", PAY)
        third = second.with_script("two", [("do", "pay")])
        fourth = third.without_script("two")
        self.assertEqual([len(house) for house in (first, second, third, fourth)], [0, 1, 2, 1])
        self.assertEqual(error_of(third.without_script, "pay"), (StillUsed, "two"))
        self.assertEqual(fourth, second)

    def test_nothing_changes_by_an_error(self):
        house = some()
        for name, script in (("pay", []), ("BAD", []), ("new", [("do", "new")])):
            self.assertIsNotNone(error_of(house.with_script, name, script))
        self.assertIsNotNone(error_of(house.without_script, "pay"))
        self.assertEqual(house, some())

    def test_names_of_a_script_more(self):
        self.assertEqual(error_of(some().with_script, "pay", []), (DoubleName, "pay"))
        self.assertEqual(error_of(some().with_script, "Pay", []), (InvalidName, "Pay"))
        self.assertIsNone(error_of(some().with_script, "cash", []))


class TestEqual(unittest.TestCase):
    def test_equal(self):
        self.assertTrue(some() == some())
        self.assertFalse(some() != some())

    def test_not_equal(self):
        house = some()
        others = [House(["day", "cash"], house.scripts), House(["cash", "day", "x"], house.scripts),
                  house.without_script("none"), house.with_script("more", []),
                  House(["cash", "day"], [house.scripts[1], house.scripts[0]] + house.scripts[2:]),
                  House(["cash", "day"], house.scripts[:4] + [("alonf", [])])]
        for other in others:
            self.assertFalse(house == other)
            self.assertTrue(house != other)

    def test_as_written(self):
        # Both do the same, but they are not written alike.
        one = House(["a"], [("x", [("put", "a", ("number", 1))])])
        other = House(["a"], [("x", [("put", "a", ("plus", ("number", 1), ("number", 0)))])])
        self.assertTrue(one != other)

    def test_nothing_else(self):
        class Wide:
            def __eq__(self, other):
                return True

        for other in (None, 0, "cash", [], (["cash", "day"], []), object(), Wide()):
            self.assertFalse(some() == other)
            self.assertTrue(some() != other)


class TestNeverChanges(unittest.TestCase):
    def test_lists_that_were_passed(self):
        accounts, inner, rests = ["cash", "day"], [("put", "cash", ("number", 5))], [0, 1]
        script = [("times", 2, inner), ("when", ("account", "day"), 2, rests, inner, [])]
        scripts = [("one", script)]
        house = House(accounts, scripts)
        more = house.with_script("two", script)
        before = (house.scripts, more.scripts)
        for one in (accounts, inner, rests, script, scripts):
            one.append("spoilt")
        self.assertEqual((house.scripts, more.scripts), before)
        self.assertEqual(house.accounts, ["cash", "day"])

    def test_passed_lists_stay(self):
        accounts, scripts = ["cash", "day"], some().scripts
        House(accounts, scripts)
        self.assertEqual((accounts, scripts), (["cash", "day"], some().scripts))

    def test_lists_that_were_told(self):
        house = some()
        for told in (house.accounts, house.scripts, house["week"], house["pay"], house["none"], house.users("pay")):
            spoil(told)
        self.assertEqual(house, some())

    def test_lists_stand_in_one_place(self):
        shared = [("put", "cash", ("number", 5))]
        script = [("times", 2, shared), ("times", 3, shared)]
        house = House(["cash"], [("one", script), ("two", script)])
        told = (house.accounts, house.accounts, house.scripts, house.scripts, house["one"], house["one"])
        self.assertTrue(are_apart(script[:1], *told))

    def test_houses_of_houses_share_nothing(self):
        house = some()
        more, less = house.with_script("more", []), house.without_script("alone")
        spoil(more.scripts)
        spoil(less.scripts)
        self.assertEqual((house, more.without_script("more")), (some(), some()))

    def test_no_property_is_assigned(self):
        for name in ("accounts", "scripts"):
            self.assertRaises(AttributeError, setattr, some(), name, [])

    def test_made_up_houses(self):
        for _, accounts, scripts, script in cases(11, 60, [[1, 2], [3], [12]]):
            house = House(accounts, scripts)
            self.assertEqual((house.accounts, house.scripts, len(house)), (accounts, scripts, len(scripts)))
            more = house.with_script("new", script)
            self.assertEqual((more["new"], more.without_script("new") == house), (script, True))
