"""What a call is refused with, its class and its fields."""

import unittest

from cardlanes.errors import LaneError


class Refusals(unittest.TestCase):
    def assert_refused(self, error, fields, call, *told):
        """The call is refused with just this class, and the error bears just these fields."""
        with self.assertRaises(LaneError) as caught:
            call(*told)
        self.assertIs(type(caught.exception), error)
        self.assertEqual(vars(caught.exception), fields)
        for name, value in fields.items():
            self.assertIs(type(vars(caught.exception)[name]), type(value))
