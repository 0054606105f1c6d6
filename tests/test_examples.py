"""The examples of DOC.md."""

import doctest
import pathlib
import unittest

DEEDS = '''
>>> from accountmaps.deeds import asked, changed, form_of, map_of, run, script_for, states, value
>>> from accountmaps.houses import House
>>> sell = [("put", "stock", ("number", -1)), ("put", "cash", ("number", 5))]
>>> night = [("put", "day", ("number", 1)), ("set", "day", ("rest", ("account", "day"), 7))]
>>> house = House(["cash", "stock", "day"], [("sell", sell), ("night", night)])
>>> [run(house, [("do", "sell"), ("times", 2, night)], [0, 3, 6]), states(house, night, [0, 0, 6]), value(house, ("rest", ("number", -1), 7), [0, 0, 0])]
[[5, 2, 1], [[0, 0, 7], [0, 0, 0]], 6]
>>> [map_of(house, sell), form_of(house, [("rest", ("account", "day"), 2)]), changed(house, night), asked(house, [("move", "cash", "stock", ("account", "day"))]), asked(house, night), map_of(house, script_for(house, map_of(house, sell))) == map_of(house, sell)]
[([1, 1, 1], [([[1, 0, 0], [0, 1, 0], [0, 0, 1]], [5, -1, 0])]), ([1, 1, 2], [([[0, 0, 0]], [0]), ([[0, 0, 0]], [1])]), ['day'], ['day'], [], True]
'''


class TestExamples(unittest.TestCase):
    def check(self, text, name):
        test = doctest.DocTestParser().get_doctest(text, {}, name, None, 0)
        self.assertTrue(test.examples)
        failed = doctest.DocTestRunner(verbose=False).run(test).failed
        self.assertEqual(failed, 0)

    def test_deeds(self):
        self.check(DEEDS, "deeds")

    def test_readme(self):
        readme = pathlib.Path(__file__).resolve().parent.parent / "README.md"
        self.check(readme.read_text().split("```python\n")[1].split("```")[0], "README.md")
