"""The errors: all under NetError, none of the six under another one."""

import unittest

from pipelinecut import errors
from tests.helper import REFUSALS


class ErrorsTest(unittest.TestCase):
    def test_stand_in_their_file(self):
        for kind in (errors.NetError,) + REFUSALS:
            self.assertEqual(kind.__module__, "pipelinecut.errors")

    def test_net_error_is_a_value_error(self):
        self.assertTrue(issubclass(errors.NetError, ValueError))
        for kind in REFUSALS:
            self.assertFalse(issubclass(errors.NetError, kind))

    def test_each_is_caught_as_itself_net_error_and_value_error(self):
        for kind in REFUSALS:
            for outer in (kind, errors.NetError, ValueError):
                with self.subTest(kind=kind.__name__, outer=outer.__name__):
                    with self.assertRaises(outer):
                        raise kind("refused")

    def test_each_is_caught_as_none_of_the_other_five(self):
        for kind in REFUSALS:
            caught = [other for other in REFUSALS if issubclass(kind, other)]
            self.assertEqual(caught, [kind])

    def test_are_six(self):
        self.assertEqual(len(set(REFUSALS)), 6)


if __name__ == "__main__":
    unittest.main()
