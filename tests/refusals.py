"""What a call is refused with, its class and its fields."""

import unittest

from cardlanes.errors import Clash, LaneError


def shown_error(error):
    """The name of an error's class and its fields, those of a Clash's refusal likewise."""
    fields = dict(vars(error))
    if type(error) is Clash:
        fields["refusal"] = shown_error(error.refusal)
    return type(error).__name__, fields


class Refusals(unittest.TestCase):
    def assert_refused(self, error, fields, call, *told):
        """The call is refused with just this class, and the error bears just these fields."""
        with self.assertRaises(LaneError) as caught:
            call(*told)
        self.assert_error(caught.exception, error, fields)

    def assert_clash(self, at, error, fields, call, *told):
        """The call is refused with Clash of this number, and its refusal is of this class and bears these fields."""
        with self.assertRaises(LaneError) as caught:
            call(*told)
        clash = caught.exception
        self.assertIs(type(clash), Clash)
        self.assertEqual(sorted(vars(clash)), ["at", "refusal"])
        self.assertIs(type(clash.at), int)
        self.assertEqual(clash.at, at)
        self.assert_error(clash.refusal, error, fields)

    def assert_error(self, found, error, fields):
        self.assertIs(type(found), error)
        self.assertEqual(vars(found), fields)
        for name, value in fields.items():
            self.assertIs(type(vars(found)[name]), type(value))
