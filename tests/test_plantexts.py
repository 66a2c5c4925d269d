"""[5] a plan's text and its reading; and [2] of what is handed in there."""

import copy
import re
import unittest

from cardlanes.errors import LaneError, NoText
from cardlanes.plans import is_plan
from cardlanes.plantexts import read_plan, shown_plan

from plan_samples import GREATEST_TEXT, ODD_THINGS, ORDINARY_TEXT, PLANS_AND_TEXTS, SMALL, SMALL_TEXT

NAME = "(?!(?:out|yard)(?![a-z]))[a-z]{1,8}"
LANE_ROW = re.compile(f"lane ({NAME}) [1-9][0-9]?")
KIND_ROW = re.compile(f"kind ({NAME})((?: {NAME}:[1-9][0-9]?)+)")
SIGNS = "a z019:-+A\n\"~o"


def refused_row(text):
    """The row that NoText must bear for a text, or None where a plan must be read; told apart from the program."""
    lanes, kinds = [], []
    rows = text.split("\n")
    for at, row in enumerate(rows):
        lane, kind = LANE_ROW.fullmatch(row), KIND_ROW.fullmatch(row)
        if lane and not kinds and len(lanes) < 6 and lane[1] not in lanes:
            lanes.append(lane[1])
        elif kind and len(kinds) < 6 and kind[1] not in kinds:
            way = [step.split(":")[0] for step in kind[2].split()]
            if way != [name for name in lanes if name in way]:
                return at
            kinds.append(kind[1])
        else:
            return at
    return None if kinds else len(rows)


def mutants(text):
    """The text with one sign left out, put in or put for another, a row left out, told twice or swapped with the next."""
    for at in range(len(text) + 1):
        yield text[:at]
        yield text[:at] + text[at + 1:]
        for sign in SIGNS:
            yield text[:at] + sign + text[at:]
            yield text[:at] + sign + text[at + 1:]
    rows = text.split("\n")
    for at in range(len(rows)):
        yield "\n".join(rows[:at] + rows[at + 1:])
        yield "\n".join(rows[:at + 1] + rows[at:])
        yield "\n".join(rows[:at] + rows[at:at + 2][::-1] + rows[at + 2:])


class Refusing(unittest.TestCase):
    def assert_refused(self, thing, row):
        with self.subTest(thing):
            with self.assertRaises(LaneError) as caught:
                read_plan(thing)
            self.assertIs(type(caught.exception), NoText)
            self.assertEqual(caught.exception.row, row)
            self.assertIs(type(caught.exception.row), int)


class Shown(unittest.TestCase):
    def test_to_the_sign(self):
        for plan, text in PLANS_AND_TEXTS:
            with self.subTest(text):
                self.assertEqual(shown_plan(plan), text)

    def test_numbers_at_their_bounds(self):
        for bound, figures in ((1, "1"), (9, "9"), (10, "10"), (90, "90"), (99, "99")):
            plan = ((("a", bound), ("b", 1)), (("k", (1,), (bound,)),))
            with self.subTest(bound):
                self.assertEqual(shown_plan(plan), f"lane a {figures}\nlane b 1\nkind k b:{figures}")


class Read(unittest.TestCase):
    def test_what_was_shown(self):
        for plan, text in PLANS_AND_TEXTS:
            with self.subTest(text):
                self.assertEqual(read_plan(text), plan)
                self.assertEqual(read_plan(shown_plan(plan)), plan)
                self.assertIs(is_plan(read_plan(text)), True)

    def test_every_bound(self):
        for bound in range(1, 100):
            plan = ((("a", bound),), (("k", (0,), (100 - bound,)),))
            with self.subTest(bound):
                self.assertEqual(read_plan(shown_plan(plan)), plan)

    def test_names_that_are_also_words_of_rows(self):
        text = "lane kind 1\nlane lane 2\nkind lane kind:1\nkind kind kind:1 lane:2"
        plan = ((("kind", 1), ("lane", 2)), (("lane", (0,), (1,)), ("kind", (0, 1), (1, 2))))
        self.assertEqual(read_plan(text), plan)


class Refused(Refusing):
    def test_what_is_no_text(self):
        for thing in ODD_THINGS + (0, 1, SMALL, [SMALL_TEXT], (SMALL_TEXT,), SMALL_TEXT.split("\n")):
            if not isinstance(thing, str):
                before = copy.deepcopy(thing)
                self.assert_refused(thing, 0)
                self.assertEqual(thing, before)

    def test_at_the_first_row(self):
        for row in (
            "", " ", "x", "lane", "lane ", "lane a", "lane a ", "lane 1", "lane a 0", "lane a 01", "lane a 100", "lane a -1",
            "lane a +1", "lane a 1 ", " lane a 1", "lane  a 1", "lane a  1", "lane a 1 1", "lane a b", "lane a 1:", "lane a:1",
            "Lane a 1", "lanes a 1", "lane A 1", "lane abcdefghi 1", "lane out 1", "lane yard 1", "lane a1 1", "lane a 1.",
            "kind a a:1", "kind a", "kind", "lane a 1" + "0" * 700, "lane " + "a" * 700 + " 1",
        ):
            self.assert_refused(row, 0)
            self.assert_refused(row + "\nkind k a:1", 0)
            self.assert_refused(row + "\nlane b 1\nkind k b:1", 0)
            self.assert_refused(row + "\n" + row, 0)

    def test_at_a_middle_row(self):
        for row in ("", "lane a 1", "lane b 100", "lane b", "lane out 1", "kind k b:1", "kind k", "kind k c:1", "x"):
            self.assert_refused(f"lane a 1\n{row}\nlane c 3\nkind k c:1", 1)
        for row in ("", "lane b 1", "kind k a:1", "kind l", "kind l ", "kind l b:1", "kind l a:0", "kind yard a:1"):
            self.assert_refused(f"lane a 1\nkind k a:1\n{row}\nkind m a:1", 2)

    def test_at_the_last_row(self):
        for row in (
            "", " ", "kind", "kind ", "kind k", "kind k ", "kind k a", "kind k a:", "kind k :1", "kind k a:0", "kind k a:01",
            "kind k a:100", "kind k a:1 ", "kind k  a:1", " kind k a:1", "kind k a:1  b:1", "kind k a:1 a:1", "kind k b:1 a:1",
            "kind k a:1 c:1", "kind k c:1", "kind k a:1b:1", "kind k a:1:1", "kind k a::1", "kind k a: 1", "kind k a :1",
            "kind k a:-1", "kind k a:+1", "kind k a:1 b", "kind k 0:1", "kind K a:1", "kind out a:1", "kind yard a:1",
            "kind abcdefghi a:1", "kind  a:1", "kinds k a:1", "Kind k a:1", "kind a:1", "kind k a:1,b:1", "kind k A:1",
            "kind k out:1", "kind k a:1 out:1", "kind k yard:1",
        ):
            self.assert_refused(f"lane a 1\nlane b 2\n{row}", 2)
            self.assert_refused(f"lane a 1\nlane b 2\nkind l b:1\n{row}", 3)

    def test_a_line_feed_behind_all(self):
        for plan, text in PLANS_AND_TEXTS:
            self.assert_refused(text + "\n", len(text.split("\n")))
            self.assert_refused(text + "\n\n", len(text.split("\n")))
            self.assert_refused("\n" + text, 0)

    def test_texts_that_end_too_early(self):
        rows = GREATEST_TEXT.split("\n")
        for many in range(1, 7):
            self.assert_refused("\n".join(rows[:many]), many)
            # Here the last row is there, and an empty row is none that a plan's text has.
            self.assert_refused("\n".join(rows[:many]) + "\n", many)

    def test_names_told_twice(self):
        self.assert_refused("lane a 1\nlane b 1\nlane a 1\nkind k a:1", 2)
        self.assert_refused("lane a 1\nlane b 1\nkind k a:1\nkind l a:1\nkind k b:1", 4)

    def test_too_many_rows(self):
        lanes = [f"lane {letter} 1" for letter in "abcdefg"]
        kinds = [f"kind {letter} a:1" for letter in "klmnopq"]
        self.assert_refused("\n".join(lanes + kinds), 6)
        self.assert_refused("\n".join(lanes), 6)
        self.assert_refused("\n".join(lanes[:6] + kinds), 12)
        self.assert_refused("\n".join(lanes[:1] + kinds), 7)

    def test_a_lane_behind_a_kind(self):
        self.assert_refused("lane a 1\nkind k a:1\nlane b 1", 2)
        self.assert_refused("lane a 1\nkind k a:1\nlane b 1\nkind l b:1", 2)

    def test_a_lane_of_a_way_that_comes_only_later(self):
        self.assert_refused("lane a 1\nkind k a:1 b:1\nlane b 1", 1)

    def test_the_first_of_several_rows_is_told(self):
        self.assert_refused("lane a 1\nlane a 1\nlane a 1\nkind k z:0", 1)
        self.assert_refused("lane a 1\nkind k a:1\nkind l a:0\nkind l a:0", 2)

    def test_each_small_change_of_a_text(self):
        for text in (SMALL_TEXT, ORDINARY_TEXT, "lane b 10\nlane a 99\nkind a b:1 a:10\nkind b a:1"):
            for mutant in mutants(text):
                row = refused_row(mutant)
                if row is None:
                    self.assertEqual(shown_plan(read_plan(mutant)), mutant)
                else:
                    self.assert_refused(mutant, row)


if __name__ == "__main__":
    unittest.main()
