"""The interface: names, arguments, and that the package's __init__ binds nothing."""

import inspect
import subprocess
import sys
import unittest
from pathlib import Path

from yourorder import rows, sets

TOP = Path(__file__).resolve().parent.parent

ARGUMENTS = {
    rows: {
        "ahead": ["row", "order"],
        "in_order": ["row", "order"],
        "stable": ["row", "order"],
        "merged": ["one", "other", "order"],
        "unique": ["row", "order"],
        "lower": ["row", "key", "order"],
        "upper": ["row", "key", "order"],
    },
    sets: {
        "either": ["one", "other", "order"],
        "both": ["one", "other", "order"],
        "without": ["one", "other", "order"],
    },
}


class InterfaceTest(unittest.TestCase):
    def test_names_and_arguments(self):
        for module, functions in ARGUMENTS.items():
            for name, arguments in functions.items():
                with self.subTest(module=module.__name__, name=name):
                    parameters = inspect.signature(getattr(module, name)).parameters
                    self.assertEqual(list(parameters), arguments)
                    for parameter in parameters.values():
                        self.assertIs(parameter.default, parameter.empty)

    def test_init_binds_nothing(self):
        script = "import yourorder; print([name for name in vars(yourorder) if not name.startswith('__')])"
        done = subprocess.run([sys.executable, "-c", script], cwd=TOP, capture_output=True, text=True, check=True)
        self.assertEqual(done.stdout.strip(), "[]")


if __name__ == "__main__":
    unittest.main()
