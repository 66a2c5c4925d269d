"""The interface under "cardlanes/errors.py", and [2] of the refusals' classes."""

import unittest

from cardlanes import errors

FIELDS = {
    "NoText": ("row",),
    "NoCard": ("card",),
    "NoKind": ("kind",),
    "NoLane": ("lane",),
    "NoWait": ("card",),
    "NoEntry": ("at",),
    "Twice": ("card",),
    "Out": ("card",),
    "Blocked": ("card",),
    "Free": ("card",),
    "InYard": ("card",),
    "Past": ("card",),
    "Waits": ("card", "other"),
    "Full": ("lane", "bound"),
    "KindFull": ("lane", "kind", "bound"),
    "Low": ("lane", "many"),
    "Clash": ("at", "refusal"),
}
MADE_WITH_A_TEXT = ("TooMany", "NoRow")
ALL_NAMES = (*FIELDS, *MADE_WITH_A_TEXT)


class Classes(unittest.TestCase):
    def test_lane_error_stands_under_value_error(self):
        self.assertEqual(errors.LaneError.__bases__, (ValueError,))

    def test_each_stands_directly_under_lane_error(self):
        for name in ALL_NAMES:
            with self.subTest(name):
                self.assertEqual(getattr(errors, name).__bases__, (errors.LaneError,))

    def test_none_stands_under_another(self):
        for name in ALL_NAMES:
            for other in ALL_NAMES:
                with self.subTest(name, other=other):
                    under = issubclass(getattr(errors, name), getattr(errors, other))
                    self.assertEqual(under, name == other)

    def test_there_are_no_others(self):
        made = [name for name, value in vars(errors).items() if isinstance(value, type)]
        self.assertEqual(sorted(made), sorted([*ALL_NAMES, "LaneError"]))


class Fields(unittest.TestCase):
    def assert_bears(self, name, values):
        error = getattr(errors, name)(*values)
        self.assertIsInstance(error, errors.LaneError)
        self.assertIsInstance(error, ValueError)
        self.assertEqual(vars(error), dict(zip(FIELDS[name], values)))
        for field, value in zip(FIELDS[name], values):
            self.assertIs(getattr(error, field), value)

    def test_each_bears_its_fields_in_their_order(self):
        for name, fields in FIELDS.items():
            with self.subTest(name):
                self.assert_bears(name, [f"the {field}" for field in fields])

    def test_fields_may_be_numbers(self):
        for name, fields in FIELDS.items():
            with self.subTest(name):
                self.assert_bears(name, [10 ** 60 - 1 - at for at in range(len(fields))])
                self.assert_bears(name, [at - 1 for at in range(len(fields))])

    def test_each_takes_just_its_fields(self):
        for name, fields in FIELDS.items():
            with self.subTest(name):
                with self.assertRaises(TypeError):
                    getattr(errors, name)(*["a"] * (len(fields) + 1))
                with self.assertRaises(TypeError):
                    getattr(errors, name)(*["a"] * (len(fields) - 1))

    def test_clash_bears_the_very_refusal(self):
        refusal = errors.Waits("a", "b")
        clash = errors.Clash(3, refusal)
        self.assertEqual(clash.at, 3)
        self.assertIs(clash.refusal, refusal)

    def test_those_made_with_a_text(self):
        for name in MADE_WITH_A_TEXT:
            with self.subTest(name):
                self.assertEqual(str(getattr(errors, name)("the text")), "the text")

    def test_each_can_be_raised_and_caught_by_either_base(self):
        for name in ALL_NAMES:
            values = ["a"] * len(FIELDS.get(name, ("text",)))
            for base in (errors.LaneError, ValueError):
                with self.subTest(name, base=base), self.assertRaises(base):
                    raise getattr(errors, name)(*values)


if __name__ == "__main__":
    unittest.main()
