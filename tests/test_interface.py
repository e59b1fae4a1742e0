"""The interface: names, arguments, and that the package's __init__ binds nothing."""

import inspect
import subprocess
import sys
import unittest
from pathlib import Path

from yourorder import heaps, maps, picks, rows, sets

TOP = Path(__file__).resolve().parent.parent

ARGUMENTS = {
    rows: {
        "ahead": ["row", "order"],
        "in_order": ["row", "order"],
        "stable": ["row", "order"],
        "merged": ["one", "other", "order"],
        "unique": ["row", "order"],
        "lower": ["row", "key", "order"],
        "upper": ["row", "key", "order"],
    },
    sets: {
        "either": ["one", "other", "order"],
        "both": ["one", "other", "order"],
        "without": ["one", "other", "order"],
    },
    heaps: {
        "is_heap": ["row", "order"],
        "push": ["heap", "new", "order"],
        "pop": ["heap", "order"],
        "heaped": ["row", "order"],
    },
    picks: {
        "least": ["row", "order"],
        "ends": ["row", "order"],
        "best": ["row", "many", "order"],
        "nth": ["row", "k", "order"],
        "turned_pairs": ["row", "order"],
        "rising": ["row", "order"],
    },
    maps: {
        "Map": ["order"],
    },
    maps.Map(lambda first, second: 0): {
        "put": ["key", "held"],
        "drop": ["key"],
        "get": ["key"],
        "has": ["key"],
        "size": [],
        "at": ["place"],
        "pairs": [],
        "rank": ["key"],
        "copy": [],
    },
}


class InterfaceTest(unittest.TestCase):
    def test_names_and_arguments(self):
        for place, functions in ARGUMENTS.items():
            for name, arguments in functions.items():
                with self.subTest(place=place, name=name):
                    parameters = inspect.signature(getattr(place, name)).parameters
                    self.assertEqual(list(parameters), arguments)
                    for parameter in parameters.values():
                        self.assertIs(parameter.default, parameter.empty)

    def test_a_map_is_made_of_a_class(self):
        self.assertIsInstance(maps.Map, type)

    def test_init_binds_nothing(self):
        script = "import yourorder; print([name for name in vars(yourorder) if not name.startswith('__')])"
        done = subprocess.run([sys.executable, "-c", script], cwd=TOP, capture_output=True, text=True, check=True)
        self.assertEqual(done.stdout.strip(), "[]")


if __name__ == "__main__":
    unittest.main()
