"""Promise 1: the nineteen classes of errors."""

import unittest

from accountmaps import errors
from accountmaps.errors import HouseError

NAMES = ["InvalidName", "DoubleName", "UnknownName", "InvalidModulus", "InvalidNumber", "InvalidPair",
         "InvalidState", "InvalidForm", "InvalidBox", "InvalidCell", "InvalidWord", "TooShort", "InvalidRests",
         "StillUsed", "Locked", "Clash", "NothingToUndo", "Unreadable"]
CLASSES = [getattr(errors, name) for name in NAMES]


class TestErrors(unittest.TestCase):
    def test_nineteen_classes(self):
        self.assertEqual(len(set(CLASSES + [HouseError])), 19)
        for name, kind in zip(NAMES, CLASSES):
            self.assertEqual((kind.__name__, kind.__module__), (name, "accountmaps.errors"))

    def test_bases(self):
        self.assertEqual(HouseError.__mro__, (HouseError,) + ValueError.__mro__)
        for kind in CLASSES:
            self.assertEqual(kind.__mro__, (kind,) + HouseError.__mro__)

    def test_value_is_the_very_thing(self):
        things = [0, -10 ** 40, "", "cash", None, True, (), ([1], [([[1]], [0])]), [], [[1], [2]], {}, object()]
        for kind in CLASSES + [HouseError]:
            for thing in things:
                self.assertIs(kind(thing).value, thing)
                self.assertIs(kind(value=thing).value, thing)

    def test_list_that_is_changed_behind(self):
        for kind in CLASSES + [HouseError]:
            thing = [1, [2]]
            error = kind(thing)
            thing.append(3)
            thing[1].append(4)
            self.assertIs(error.value, thing)
            self.assertEqual(error.value, [1, [2, 4], 3])

    def test_exactly_one_argument(self):
        for kind in CLASSES + [HouseError]:
            self.assertRaises(TypeError, kind)
            self.assertRaises(TypeError, kind, 1, 2)
            self.assertRaises(TypeError, kind, thing=1)

    def test_caught_as_the_others(self):
        for kind in CLASSES:
            for caught in (kind, HouseError, ValueError):
                with self.assertRaises(caught):
                    raise kind(5)
            for other in CLASSES:
                self.assertEqual(isinstance(kind(5), other), kind == other)
