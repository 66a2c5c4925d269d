"""[4] names, bounds, plans; and [2] of what is handed in there."""

import copy
import string
import unittest

from cardlanes.errors import LaneError, NoKind, NoLane
from cardlanes.plans import is_name, is_plan, lane_number, way_of

from plan_samples import GREATEST, ODD_THINGS, ORDINARY, PLANS, SMALL, parts_of, with_part


def plan_of(lane_count, kind_count):
    """A plan of so many lanes and kinds, each kind with a way through the first lane."""
    lanes = tuple((letter, 1) for letter in string.ascii_lowercase[:lane_count])
    kinds = tuple((letter, (0,), (1,)) for letter in string.ascii_lowercase[:kind_count])
    return (lanes, kinds)


def plan_with(way, bounds, lane_count=3):
    """A plan of so many lanes and of one kind."""
    return (plan_of(lane_count, 1)[0], (("k", way, bounds),))


class Told(unittest.TestCase):
    """True and False must be told as such, not only as something that counts as true or false."""

    def assert_true(self, told):
        self.assertIs(told, True)

    def assert_false(self, told):
        self.assertIs(told, False)


class Names(Told):
    def test_ordinary_names(self):
        for name in ("a", "z", "todo", "kind", "lane", "abcdefgh", "qrstuvwx", "zzzzzzzz", "yards", "outs", "ou", "yar"):
            with self.subTest(name):
                self.assert_true(is_name(name))

    def test_length(self):
        for length in range(12):
            with self.subTest(length):
                self.assertIs(is_name("a" * length), 1 <= length <= 8)

    def test_each_sign_alone_ahead_within_and_behind(self):
        for number in range(0, 300):
            sign = chr(number)
            small = sign in string.ascii_lowercase
            for text in (sign, sign + "bc", "a" + sign + "c", "ab" + sign):
                with self.subTest(text):
                    self.assertIs(is_name(text), small)

    def test_out_and_yard_are_none(self):
        self.assert_false(is_name("out"))
        self.assert_false(is_name("yard"))

    def test_other_things_are_none(self):
        for thing in ODD_THINGS:
            with self.subTest(thing):
                self.assert_false(is_name(thing))
        for thing in (0, 1, ("todo",), ["t", "o"], ("a",), ["a"], SMALL):
            with self.subTest(thing):
                self.assert_false(is_name(thing))


class Plans(Told):
    def test_ordinary_plans(self):
        for plan in PLANS:
            with self.subTest(plan):
                self.assert_true(is_plan(plan))

    def test_how_many_lanes(self):
        for many in range(9):
            with self.subTest(many):
                self.assertIs(is_plan(plan_of(many, 1)), 1 <= many <= 6)

    def test_how_many_kinds(self):
        for many in range(9):
            with self.subTest(many):
                self.assertIs(is_plan(plan_of(1, many)), 1 <= many <= 6)

    def test_many_more(self):
        lanes, kinds = SMALL
        self.assert_false(is_plan((lanes * 200, kinds)))
        self.assert_false(is_plan((lanes, kinds * 200)))

    def test_a_plan_has_just_two_parts(self):
        lanes, kinds = SMALL
        for thing in ((), (lanes,), (kinds,), (lanes, kinds, kinds), (lanes, kinds, None), (kinds, lanes)):
            with self.subTest(thing):
                self.assert_false(is_plan(thing))

    def test_a_lane_has_just_two_parts(self):
        for lane in (("todo",), ("todo", 1, 1), (1, "todo"), ("todo", "1")):
            with self.subTest(lane):
                self.assert_false(is_plan(((lane,), SMALL[1])))

    def test_a_kind_has_just_three_parts(self):
        for kind in (("bug",), ("bug", (0,)), ("bug", (0,), (1,), (1,)), ((0,), (1,), "bug"), ("bug", 0, 1)):
            with self.subTest(kind):
                self.assert_false(is_plan((SMALL[0], (kind,))))

    def test_bounds_of_lanes(self):
        for bound in (-99, -1, 0, 1, 2, 50, 98, 99, 100, 101, 10 ** 60 - 1, 1 - 10 ** 60):
            with self.subTest(bound):
                self.assertIs(is_plan(((("todo", bound),), SMALL[1])), 1 <= bound <= 99)

    def test_bounds_of_kinds(self):
        for bound in (-99, -1, 0, 1, 2, 50, 98, 99, 100, 101, 10 ** 60 - 1, 1 - 10 ** 60):
            for at in range(3):
                bounds = tuple(bound if place == at else 1 for place in range(3))
                with self.subTest(bounds):
                    self.assertIs(is_plan(plan_with((0, 1, 2), bounds)), 1 <= bound <= 99)

    def test_names_of_lanes_and_kinds(self):
        for name in ("a", "abcdefgh", "abcdefghi", "", "out", "yard", "A", "a1", "a b", "a:", "a\n"):
            told = name in ("a", "abcdefgh")
            with self.subTest(name):
                self.assertIs(is_plan((((name, 1),), SMALL[1])), told)
                self.assertIs(is_plan((SMALL[0], ((name, (0,), (1,)),))), told)

    def test_no_two_lanes_have_one_name(self):
        for first, second, third in (("a", "a", "b"), ("a", "b", "a"), ("b", "a", "a")):
            lanes = ((first, 1), (second, 2), (third, 3))
            with self.subTest(lanes):
                self.assert_false(is_plan((lanes, SMALL[1])))

    def test_no_two_kinds_have_one_name(self):
        lanes = (("a", 1), ("b", 1), ("c", 1))
        for first, second, third in (("k", "k", "l"), ("k", "l", "k"), ("l", "k", "k")):
            kinds = ((first, (0,), (1,)), (second, (1,), (2,)), (third, (2,), (3,)))
            with self.subTest(kinds):
                self.assert_false(is_plan((lanes, kinds)))

    def test_a_lane_and_a_kind_may_have_one_name(self):
        self.assert_true(is_plan(((("a", 1), ("b", 1)), (("b", (0, 1), (1, 1)), ("a", (0,), (1,))))))

    def test_ways_of_numbers_that_rise(self):
        for way in ((0,), (1,), (2,), (0, 1), (0, 2), (1, 2), (0, 1, 2)):
            with self.subTest(way):
                self.assert_true(is_plan(plan_with(way, (1,) * len(way))))

    def test_ways_that_do_not_rise(self):
        for way in ((0, 0), (1, 0), (2, 1), (0, 1, 1), (0, 2, 1), (1, 1, 2), (2, 1, 0), (0, 1, 0)):
            with self.subTest(way):
                self.assert_false(is_plan(plan_with(way, (1,) * len(way))))

    def test_a_way_has_one_number_at_least(self):
        self.assert_false(is_plan(plan_with((), ())))
        self.assert_false(is_plan(plan_with((), (1,))))

    def test_a_way_has_numbers_of_lanes(self):
        for lane_count in range(1, 7):
            for number in range(-8, 9):
                with self.subTest(number, lane_count=lane_count):
                    told = is_plan(plan_with((number,), (1,), lane_count))
                    self.assertIs(told, 0 <= number < lane_count)
        for way in ((-1, 0), (0, 3), (0, 1, 3), (-3, -2, -1), (0, 1, 2, 3), (0, 10 ** 60 - 1)):
            with self.subTest(way):
                self.assert_false(is_plan(plan_with(way, (1,) * len(way))))

    def test_a_truth_is_no_whole_number(self):
        self.assert_false(is_plan(plan_with((False,), (1,))))
        self.assert_false(is_plan(plan_with((True,), (1,))))
        self.assert_false(is_plan(plan_with((0, True), (1, 1))))
        self.assert_false(is_plan(plan_with((0,), (True,))))
        self.assert_false(is_plan(((("todo", True),), SMALL[1])))

    def test_as_many_bounds_as_lanes_of_the_way(self):
        for way in ((0,), (0, 2), (0, 1, 2)):
            for many in range(6):
                with self.subTest(way, many=many):
                    self.assertIs(is_plan(plan_with(way, (1,) * many)), many == len(way))

    def test_other_things_are_none(self):
        for thing in ODD_THINGS + (0, 1, "todo", "lane todo 1\nkind bug todo:1"):
            with self.subTest(thing):
                self.assert_false(is_plan(thing))

    def test_other_things_at_each_depth(self):
        for plan in PLANS:
            for path, part in parts_of(plan):
                for thing in ODD_THINGS:
                    with self.subTest(path=path, thing=thing):
                        self.assert_false(is_plan(with_part(plan, path, thing)))

    def test_a_list_for_a_tuple_at_each_depth(self):
        for plan in PLANS:
            for path, part in parts_of(plan):
                if isinstance(part, tuple):
                    with self.subTest(path=path):
                        self.assert_false(is_plan(with_part(plan, path, list(part))))

    def test_nothing_handed_in_is_changed(self):
        for thing in ([[["todo", 1]], [["bug", [0], [1]]]], ([["todo", 1]], (["bug", [0], [1]],))):
            before = copy.deepcopy(thing)
            is_plan(thing)
            is_name(thing)
            self.assertEqual(thing, before)


class LanesAndWays(unittest.TestCase):
    def test_numbers_of_lanes(self):
        for plan in PLANS:
            for number, (name, bound) in enumerate(plan[0]):
                with self.subTest(name):
                    told = lane_number(plan, name)
                    self.assertEqual(told, number)
                    self.assertIs(type(told), int)

    def test_ways_of_kinds(self):
        for plan in PLANS:
            for name, way, bounds in plan[1]:
                with self.subTest(name):
                    self.assertEqual(way_of(plan, name), way)

    def test_a_lane_is_not_told_by_a_kinds_name_nor_a_kind_by_a_lanes(self):
        self.assertEqual(lane_number(ORDINARY, "doing"), 1)
        self.assertEqual(way_of(ORDINARY, "doing"), (0, 2))
        with self.assertRaises(NoLane):
            lane_number(ORDINARY, "bug")
        with self.assertRaises(NoKind):
            way_of(ORDINARY, "todo")

    def test_lanes_that_are_not_there(self):
        for name in ("a", "todos", "tod", "bug", "zzzzzzzz", "out", "yard"):
            for plan in (SMALL, ORDINARY, GREATEST):
                with self.subTest(name), self.assertRaises(LaneError) as caught:
                    lane_number(plan, name)
                self.assertIs(type(caught.exception), NoLane)
                self.assertEqual(caught.exception.lane, name)

    def test_kinds_that_are_not_there(self):
        for name in ("a", "bugs", "bu", "todo", "aaaaaaaa"):
            for plan in (SMALL, ORDINARY, GREATEST):
                with self.subTest(name), self.assertRaises(LaneError) as caught:
                    way_of(plan, name)
                self.assertIs(type(caught.exception), NoKind)
                self.assertEqual(caught.exception.kind, name)


if __name__ == "__main__":
    unittest.main()
