"""Each name of the interface is defined in its file, with its arguments by their names."""

import inspect
import unittest
from importlib import import_module

FUNCTIONS = {
    "programs": {"checked": ["program"]},
    "states": {"started": ["program"], "fits": ["program", "state"]},
    "steps": {"stepped": ["program", "state"]},
    "runs": {"run": ["program", "state", "fuel"]},
    "meeting": {"met": ["state"], "matched": ["one", "other"]},
    "sleeping": {"told": ["state"]},
    "waking": {"woken": ["program", "words"]},
}


class InterfaceTest(unittest.TestCase):
    def test_functions(self):
        for file, functions in FUNCTIONS.items():
            module = import_module(f"sleepwalk.{file}")
            for name, arguments in functions.items():
                function = getattr(module, name)
                self.assertEqual(function.__module__, f"sleepwalk.{file}")
                self.assertEqual(list(inspect.signature(function).parameters), arguments)


if __name__ == "__main__":
    unittest.main()
