"""The interface: each name stands in its file, with the arguments that it lists."""

import inspect
import unittest

from pipelinecut import errors, nets, notes, runs, states

FUNCTIONS = {
    nets: {"checked": ["net"], "balanced": ["net"], "widened": ["net", "more"]},
    states: {
        "begin": ["net"],
        "is_through": ["net", "state", "who"],
        "can_step": ["net", "state", "who"],
        "wait_of": ["net", "state", "who"],
        "step": ["net", "state", "who"],
    },
    runs: {
        "run": ["net", "state", "picks"],
        "settled": ["net", "state"],
        "stuck": ["net", "state"],
    },
    notes: {"written": ["net"], "read": ["text"]},
}
CLASSES = ("NetError", "NoPipe", "NoOrder", "NoWorker", "IsThrough", "HasToWait", "BadNote")


class InterfaceTest(unittest.TestCase):
    def test_functions(self):
        for module, functions in FUNCTIONS.items():
            for name, arguments in functions.items():
                function = getattr(module, name)
                with self.subTest(name=name):
                    self.assertTrue(inspect.isfunction(function))
                    self.assertEqual(function.__module__, module.__name__)
                    self.assertEqual(list(inspect.signature(function).parameters), arguments)

    def test_classes(self):
        for name in CLASSES:
            self.assertEqual(getattr(errors, name).__module__, "pipelinecut.errors")


if __name__ == "__main__":
    unittest.main()
