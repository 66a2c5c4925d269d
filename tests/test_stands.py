"""[6], [7] stands, which of them are kept, and what they tell of their cards; and [2] of what is handed in there."""

import copy
import random
import unittest

from cardlanes.errors import LaneError, NoCard
from cardlanes.stands import card_of, cards_in, first_stand, is_stand, lane_of, many_of

from plan_samples import GREATEST, ODD_THINGS, ORDINARY, SMALL, parts_of, with_part
from stand_samples import (
    BUSY, BUSY_LANES, ORDINARY_STAND, PLANS_AND_STANDS, SMALL_STAND, STAND_PLANS, WIDE, card_names,
    is_stand_by_the_words, plan_of_lanes, stand_of_waits,
)

BOUNDS = BUSY[0]


def wide_stand(*cards, waits=(), bounds=(99, 99, 99, 99)):
    """A stand of WIDE with these cards, the bounds of its lanes never reached."""
    return (bounds, cards, waits)


class Told(unittest.TestCase):
    def assert_stand(self, plan, thing):
        self.assertTrue(is_stand_by_the_words(plan, thing), thing)
        self.assertIs(is_stand(plan, thing), True, thing)

    def assert_no_stand(self, plan, thing):
        self.assertFalse(is_stand_by_the_words(plan, thing), thing)
        self.assertIs(is_stand(plan, thing), False, thing)

    def assert_told(self, plan, thing, whether):
        if whether:
            self.assert_stand(plan, thing)
        else:
            self.assert_no_stand(plan, thing)


class FirstStands(Told):
    def test_first_stands(self):
        self.assertEqual(first_stand(SMALL), ((1,), (), ()))
        self.assertEqual(first_stand(ORDINARY), ((9, 3, 10), (), ()))
        self.assertEqual(first_stand(GREATEST), ((99,) * 6, (), ()))
        self.assertEqual(first_stand(WIDE), ((4, 2, 3, 5), (), ()))

    def test_they_are_stands(self):
        for plan in STAND_PLANS:
            self.assert_stand(plan, first_stand(plan))


class Parts(Told):
    def test_ordinary_stands(self):
        for plan, stand in PLANS_AND_STANDS:
            self.assert_stand(plan, stand)

    def test_just_three_parts(self):
        bounds, cards, waits = BUSY
        for thing in (
            (), (bounds,), (bounds, cards), (bounds, cards, waits, ()), (bounds, cards, waits, waits),
            (cards, bounds, waits), (bounds, waits, cards), (waits, cards, bounds),
        ):
            self.assert_no_stand(WIDE, thing)

    def test_a_bound_for_each_lane(self):
        for plan in STAND_PLANS:
            for many in range(9):
                self.assert_told(plan, ((1,) * many, (), ()), many == len(plan[0]))

    def test_bounds_from_1_to_99(self):
        for bound in (-99, -1, 0, 1, 2, 50, 98, 99, 100, 101, 10 ** 60 - 1, 1 - 10 ** 60):
            for at in range(4):
                bounds = with_part((7, 7, 7, 7), (at,), bound)
                self.assert_told(WIDE, (bounds, (), ()), 1 <= bound <= 99)

    def test_at_most_thirty_cards(self):
        for place in (0, 5):
            for many in (0, 1, 29, 30, 31, 32, 200):
                cards = [(name, "all", place, False) for name in card_names(many)]
                self.assert_told(WIDE, wide_stand(*cards), many <= 30)

    def test_thirty_cards_in_one_lane(self):
        plan = plan_of_lanes(1)
        for many in (29, 30, 31):
            cards = tuple((name, "all", 1, False) for name in card_names(many))
            self.assert_told(plan, ((99,), cards, ()), many <= 30)

    def test_a_card_has_just_four_parts(self):
        for card in (
            (), ("a",), ("a", "all"), ("a", "all", 0), ("a", "all", 0, False, False), ("all", "a", 0, False),
            ("a", "all", False, 0), ("a", 0, "all", False), "aall",
        ):
            self.assert_no_stand(WIDE, wide_stand(card))

    def test_cards_rise_by_unlike_names(self):
        for names, whether in (
            (["a", "b", "c"], True), (["a", "aa", "b"], True), (["a", "z", "za"], True), (["a", "a"], False),
            (["b", "a"], False), (["a", "c", "b"], False), (["b", "a", "c"], False), (["a", "b", "b"], False),
            (["a", "b", "a"], False), (["aa", "a"], False),
        ):
            cards = [(name, "all", 0, False) for name in names]
            self.assert_told(WIDE, wide_stand(*cards), whether)

    def test_like_names_with_other_parts_that_rise(self):
        for first, second in (
            (("a", "all", 0, False), ("a", "ends", 0, False)),
            (("a", "all", 0, False), ("a", "all", 1, False)),
            (("a", "all", 0, False), ("a", "all", 0, True)),
        ):
            self.assert_no_stand(WIDE, wide_stand(first, second))

    def test_rising_by_names_whatever_the_other_parts_are(self):
        self.assert_stand(WIDE, wide_stand(("a", "mid", 2, True), ("b", "all", 0, False)))

    def test_cards_have_names(self):
        for name in ("a", "z", "abcdefgh", "all", "la", "abcdefghi", "", "out", "yard", "A", "a1", "a b", "a\n"):
            whether = name in ("a", "z", "abcdefgh", "all", "la")
            self.assert_told(WIDE, wide_stand((name, "all", 0, False)), whether)

    def test_kinds_are_those_of_the_plan(self):
        for kind in ("all", "ends", "mid", "la", "lb", "a", "al", "alls", "bug", "", "out", "yard", "All"):
            whether = kind in ("all", "ends", "mid", "la")
            self.assert_told(WIDE, wide_stand(("a", kind, 0, False)), whether)

    def test_places_to_one_more_than_the_way_has_lanes(self):
        for plan in STAND_PLANS:
            for kind, way, bounds in plan[1]:
                for place in (*range(-9, 10), 10 ** 60 - 1, 1 - 10 ** 60):
                    stand = ((99,) * len(plan[0]), (("a", kind, place, False),), ())
                    self.assert_told(plan, stand, 0 <= place <= len(way) + 1)

    def test_only_a_card_that_is_out_is_never_blocked(self):
        for kind, way, bounds in WIDE[1]:
            for place in range(len(way) + 2):
                self.assert_stand(WIDE, wide_stand(("a", kind, place, False)))
                self.assert_told(WIDE, wide_stand(("a", kind, place, True)), place <= len(way))

    def test_blocked_is_a_truth(self):
        for blocked in (0, 1, None, "", "True", (), []):
            for place in (0, 1, 5):
                self.assert_no_stand(WIDE, wide_stand(("a", "all", place, blocked)))

    def test_at_most_sixty_waits(self):
        for many in (0, 1, 59, 60, 61, 62, 112):
            plan, stand = stand_of_waits(many)
            self.assert_told(plan, stand, many <= 60)

    def test_a_wait_has_just_three_parts(self):
        for wait in ((), ("a",), ("a", 1), ("a", 1, "b", "b"), (1, "a", "b"), ("a", "b", 1), "a1b"):
            self.assert_no_stand(WIDE, self.yard_of_two((wait,)))

    def yard_of_two(self, waits):
        return wide_stand(("a", "all", 0, False), ("b", "all", 0, False), waits=waits)

    def test_waits_rise_and_none_is_there_twice(self):
        for first, second in (
            (("a", 1, "b"), ("b", 0, "a")), (("a", 1, "b"), ("a", 2, "a")), (("a", 1, "a"), ("a", 1, "b")),
        ):
            self.assert_stand(WIDE, self.yard_of_two((first, second)))
            self.assert_no_stand(WIDE, self.yard_of_two((second, first)))
            self.assert_no_stand(WIDE, self.yard_of_two((first, first)))
            self.assert_no_stand(WIDE, self.yard_of_two((first, first, second)))
            self.assert_no_stand(WIDE, self.yard_of_two((first, second, second)))
            self.assert_no_stand(WIDE, self.yard_of_two((first, second, first)))

    def test_waits_are_of_cards_for_cards(self):
        for name in ("a", "b", "c", "aa", "", "all", "la", "out", "yard"):
            self.assert_told(WIDE, self.yard_of_two(((name, 1, "a"),)), name in ("a", "b"))
            self.assert_told(WIDE, self.yard_of_two((("a", 1, name),)), name in ("a", "b"))

    def test_lanes_of_waits(self):
        for plan in STAND_PLANS:
            many = len(plan[0])
            for lane in (*range(-9, 10), 10 ** 60 - 1, 1 - 10 ** 60):
                stand = ((9,) * many, (("a", plan[1][0][0], 0, False),), (("a", lane, "a"),))
                self.assert_told(plan, stand, 0 <= lane <= many)

    def test_a_truth_is_no_whole_number(self):
        self.assert_no_stand(SMALL, ((True,), (), ()))
        for place in (True, False):
            self.assert_no_stand(WIDE, wide_stand(("a", "all", place, False)))
        for lane in (True, False):
            self.assert_no_stand(WIDE, self.yard_of_two((("a", lane, "b"),)))


class Kept(Told):
    def test_lanes_up_to_their_bounds(self):
        plan = plan_of_lanes(3)
        for lane in range(3):
            for bound in (1, 2, 3, 7):
                for many in range(9):
                    names = card_names(many)
                    cards = tuple((name, "all", lane + 1, False) for name in names)
                    bounds = with_part((99, 99, 99), (lane,), bound)
                    self.assert_told(plan, (bounds, cards, ()), many <= bound)
                    others = with_part((1, 1, 1), (lane,), 99)
                    self.assert_stand(plan, (others, cards, ()))

    def test_cards_of_all_kinds_count_and_blocked_ones_too(self):
        cards = (("a", "all", 3, True), ("b", "mid", 2, False), ("c", "la", 1, False))
        for bound in range(1, 6):
            self.assert_told(WIDE, wide_stand(*cards, bounds=(1, 1, bound, 1)), bound >= 3)

    def test_the_plans_bounds_are_not_those_that_count(self):
        cards = tuple((name, "mid", 2, False) for name in "abc") + (("d", "all", 3, False), ("e", "la", 1, False))
        self.assert_stand(WIDE, wide_stand(*cards, bounds=(4, 2, 5, 5)))
        self.assert_no_stand(WIDE, wide_stand(*cards[:3], bounds=(4, 2, 2, 5)))

    def test_kinds_up_to_their_bounds(self):
        for kind, way, bounds in WIDE[1]:
            for place, bound in enumerate(bounds, start=1):
                for many in range(7):
                    cards = tuple((name, kind, place, False) for name in card_names(many))
                    self.assert_told(WIDE, wide_stand(*cards), many <= bound)

    def test_kinds_of_one_lane_are_counted_apart(self):
        cards = [("a", "all", 3, False), ("b", "all", 3, False), ("c", "la", 1, False)]
        cards += [(name, "mid", 2, False) for name in "def"]
        self.assert_stand(WIDE, wide_stand(*cards))
        self.assert_no_stand(WIDE, wide_stand(*cards, ("g", "mid", 2, False)))
        self.assert_no_stand(WIDE, wide_stand(*cards, ("g", "la", 1, False)))
        self.assert_no_stand(WIDE, wide_stand(*cards, ("g", "all", 3, False)))

    def test_the_yard_and_out_have_no_bounds(self):
        for place in (0, 2):
            cards = tuple((name, "bug", place, False) for name in card_names(30))
            self.assert_stand(SMALL, ((1,), cards, ()))

    def test_waits_hold_or_not_at_all_places(self):
        for kind, way, bounds in WIDE[1]:
            lanes = [-1, *way, 4]
            for place, at in enumerate(lanes):
                for other_place in range(6):
                    for lane in range(5):
                        stand = wide_stand(
                            ("a", kind, place, False), ("b", "all", other_place, False), waits=(("a", lane, "b"),)
                        )
                        self.assert_told(WIDE, stand, at < lane or other_place == 5)

    def test_a_wait_for_itself_holds_below_the_lane_and_out(self):
        for place, at in enumerate((-1, 0, 1, 2, 3, 4)):
            for lane in range(5):
                stand = wide_stand(("a", "all", place, False), waits=(("a", lane, "a"),))
                self.assert_told(WIDE, stand, at < lane or at == 4)

    def test_each_wait_has_to_hold(self):
        cards = (("a", "all", 2, False), ("b", "all", 0, False), ("c", "all", 5, False))
        good = (("a", 1, "c"), ("a", 2, "b"), ("b", 0, "a"), ("c", 0, "c"))
        self.assert_stand(WIDE, wide_stand(*cards, waits=good))
        for bad in (("a", 0, "b"), ("a", 1, "a"), ("a", 1, "b"), ("c", 4, "a"), ("c", 4, "b")):
            self.assert_no_stand(WIDE, wide_stand(*cards, waits=tuple(sorted((*good, bad)))))


class OfAnything(Told):
    def test_other_things(self):
        for plan in STAND_PLANS:
            for thing in ODD_THINGS + (0, 1, "stand", [[], [], []], ((), (), ()), (1, 2, 3), plan):
                self.assert_no_stand(plan, thing)

    def test_other_things_at_each_depth(self):
        for plan, stand in PLANS_AND_STANDS:
            for path, part in parts_of(stand):
                for thing in ODD_THINGS + (0, 1, "a", "all"):
                    changed = with_part(stand, path, thing)
                    self.assert_told(plan, changed, is_stand_by_the_words(plan, changed))

    def test_a_list_for_a_tuple_at_each_depth(self):
        for plan, stand in PLANS_AND_STANDS:
            for path, part in parts_of(stand):
                if isinstance(part, tuple):
                    self.assert_no_stand(plan, with_part(stand, path, list(part)))

    def test_truths_for_whole_numbers_and_whole_numbers_for_truths_at_each_depth(self):
        for plan, stand in PLANS_AND_STANDS:
            for path, part in parts_of(stand):
                if isinstance(part, bool):
                    self.assert_no_stand(plan, with_part(stand, path, int(part)))
                elif isinstance(part, int):
                    self.assert_no_stand(plan, with_part(stand, path, True))
                    self.assert_no_stand(plan, with_part(stand, path, False))

    def test_names_within_lists_and_tuples(self):
        for plan, stand in PLANS_AND_STANDS:
            for path, part in parts_of(stand):
                if isinstance(part, str):
                    for thing in ([part], (part,), list(part), part.upper(), part + " "):
                        self.assert_no_stand(plan, with_part(stand, path, thing))

    def test_stands_of_other_plans(self):
        for plan, stand in PLANS_AND_STANDS:
            for other in STAND_PLANS:
                self.assert_told(other, stand, other == plan)

    def test_many_stands_each_changed_at_one_place(self):
        chance = random.Random(6)
        counts = {True: 0, False: 0}
        for each in range(4000):
            plan, stand = chance.choice(PLANS_AND_STANDS)
            for change in range(chance.randrange(1, 3)):
                path, part = chance.choice(parts_of(stand)[1:] or parts_of(stand))
                stand = with_part(stand, path, self.near(chance, part))
            whether = is_stand_by_the_words(plan, stand)
            self.assert_told(plan, stand, whether)
            counts[whether] += 1
        self.assertGreater(min(counts.values()), 400)

    def near(self, chance, part):
        """Something like the part."""
        if isinstance(part, bool):
            return not part
        if isinstance(part, int):
            return part + chance.choice((-2, -1, 1, 2))
        if isinstance(part, str):
            return chance.choice("abcdefghijk")
        if part and chance.randrange(2):
            at = chance.randrange(len(part))
            return part[:at] + part[at + 1:]
        return tuple(chance.sample(part, len(part)))

    def test_nothing_handed_in_is_changed(self):
        lists = [list(BOUNDS), [list(card) for card in BUSY[1]], [list(wait) for wait in BUSY[2]]]
        for thing in (lists, tuple(lists), (BOUNDS, [list(card) for card in BUSY[1]], BUSY[2])):
            before = copy.deepcopy(thing)
            self.assertIs(is_stand(WIDE, thing), False)
            self.assertEqual(thing, before)


class Cards(unittest.TestCase):
    def test_the_tuple_of_each_card(self):
        for plan, stand in PLANS_AND_STANDS:
            for card in stand[1]:
                self.assertEqual(card_of(stand, card[0]), card)

    def test_the_lane_of_each_card(self):
        for card, lane in BUSY_LANES.items():
            told = lane_of(WIDE, BUSY, card)
            self.assertEqual(told, lane)
            self.assertIs(type(told), int)

    def test_the_lane_at_each_place_of_each_kind(self):
        for plan in STAND_PLANS:
            for kind, way, bounds in plan[1]:
                for place, lane in enumerate((-1, *way, len(plan[0]))):
                    stand = ((99,) * len(plan[0]), (("a", kind, 0, False), ("b", kind, place, False)), ())
                    self.assertEqual(lane_of(plan, stand, "b"), lane)

    def test_a_card_that_is_not_there(self):
        for plan, stand in (*PLANS_AND_STANDS, (WIDE, first_stand(WIDE))):
            for name in ("nocard", "all", "ax", "axes", "bug" if stand != SMALL_STAND else "bugs", "zzzzzzzz"):
                for told in (lambda: card_of(stand, name), lambda: lane_of(plan, stand, name)):
                    with self.assertRaises(LaneError) as caught:
                        told()
                    self.assertIs(type(caught.exception), NoCard)
                    self.assertEqual(caught.exception.card, name)

    def test_the_cards_of_the_yard_of_each_lane_and_of_what_is_out(self):
        expected = {-1: ["a", "g"], 0: ["b"], 1: ["c", "i"], 2: ["d", "k"], 3: ["e", "h"], 4: ["f", "j"]}
        for lane, names in expected.items():
            self.assertEqual(cards_in(WIDE, BUSY, lane), names)

    def test_no_cards(self):
        for plan in STAND_PLANS:
            for lane in range(-1, len(plan[0]) + 1):
                self.assertEqual(cards_in(plan, first_stand(plan), lane), [])
                for kind in plan[1]:
                    self.assertEqual(many_of(plan, first_stand(plan), lane, kind[0]), 0)

    def test_thirty_cards_rise(self):
        names = card_names(30)
        for place in range(6):
            stand = wide_stand(*((name, "all", place, False) for name in names))
            self.assertEqual(cards_in(WIDE, stand, (-1, 0, 1, 2, 3, 4)[place]), names)

    def test_a_told_list_is_the_askers_own(self):
        told = cards_in(WIDE, BUSY, 1)
        again = cards_in(WIDE, BUSY, 1)
        told.append("x")
        told[0] = "y"
        self.assertEqual(again, ["c", "i"])
        self.assertEqual(cards_in(WIDE, BUSY, 1), ["c", "i"])

    def test_how_many_of_each_kind(self):
        stand = wide_stand(
            ("a", "all", 0, False), ("b", "all", 0, True), ("c", "all", 3, False), ("d", "ends", 3, False),
            ("e", "la", 1, False), ("f", "mid", 2, True), ("g", "mid", 2, False), ("h", "mid", 3, False),
            ("i", "ends", 3, False),
        )
        expected = {(-1, "all"): 2, (2, "all"): 1, (4, "ends"): 2, (2, "la"): 1, (2, "mid"): 2, (4, "mid"): 1}
        for lane in range(-1, 5):
            for kind in ("all", "ends", "mid", "la"):
                told = many_of(WIDE, stand, lane, kind)
                self.assertEqual(told, expected.get((lane, kind), 0), (lane, kind))
                self.assertIs(type(told), int)

    def test_the_kinds_together_are_the_cards_of_the_lane(self):
        for plan, stand in PLANS_AND_STANDS:
            for lane in range(-1, len(plan[0]) + 1):
                many = sum(many_of(plan, stand, lane, kind[0]) for kind in plan[1])
                self.assertEqual(len(cards_in(plan, stand, lane)), many)

    def test_an_ordinary_stand(self):
        self.assertEqual(card_of(ORDINARY_STAND, "cat"), ("cat", "doing", 3, False))
        self.assertEqual(lane_of(ORDINARY, ORDINARY_STAND, "cat"), 3)
        self.assertEqual(lane_of(ORDINARY, ORDINARY_STAND, "dog"), 2)
        self.assertEqual(cards_in(ORDINARY, ORDINARY_STAND, 2), ["dog"])
        self.assertEqual(many_of(ORDINARY, ORDINARY_STAND, 1, "bug"), 1)


if __name__ == "__main__":
    unittest.main()
