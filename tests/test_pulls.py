"""[8], [9] a card pulled and a card put back."""

import unittest

from cardlanes.errors import Blocked, Full, InYard, KindFull, NoCard, Out, Waits
from cardlanes.pulls import pulled, put_back
from cardlanes.stands import is_stand

from plan_samples import GREATEST, ORDINARY, SMALL
from refusals import Refusals
from stand_samples import BUSY, STAND_PLANS, WIDE, card_names

AMPLE = (99, 99, 99, 99)


def stand_of(*cards, waits=(), bounds=AMPLE):
    """A stand of WIDE; each card is told by its tuple."""
    return (bounds, tuple(sorted(cards)), tuple(sorted(waits)))


def card(name, kind, place, blocked=False):
    return (name, kind, place, blocked)


class Moves(Refusals):
    def assert_pulled(self, plan, stand, name, after):
        self.assertIs(is_stand(plan, stand), True, stand)
        self.assertEqual(pulled(plan, stand, name), after)
        self.assertIs(is_stand(plan, after), True, after)

    def assert_put_back(self, plan, stand, name, after):
        self.assertIs(is_stand(plan, stand), True, stand)
        self.assertEqual(put_back(plan, stand, name), after)
        self.assertIs(is_stand(plan, after), True, after)

    def assert_not_pulled(self, error, fields, stand, name, plan=WIDE):
        self.assertIs(is_stand(plan, stand), True, stand)
        self.assert_refused(error, fields, pulled, plan, stand, name)

    def assert_not_put_back(self, error, fields, stand, name, plan=WIDE):
        self.assertIs(is_stand(plan, stand), True, stand)
        self.assert_refused(error, fields, put_back, plan, stand, name)


class Pulled(Moves):
    def test_on_each_place_of_each_way(self):
        for plan in STAND_PLANS:
            bounds = tuple(bound for name, bound in plan[0])
            for kind, way, kind_bounds in plan[1]:
                for place in range(len(way) + 1):
                    self.assert_pulled(
                        plan, (bounds, (card("a", kind, place),), ()), "a", (bounds, (card("a", kind, place + 1),), ())
                    )

    def test_all_else_stays(self):
        for name, place in (("a", 0), ("c", 2), ("h", 2), ("i", 1)):
            stand = (AMPLE, BUSY[1], ())
            at = [told[0] for told in BUSY[1]].index(name)
            kind = BUSY[1][at][1]
            cards = BUSY[1][:at] + (card(name, kind, place + 1),) + BUSY[1][at + 1:]
            self.assert_pulled(WIDE, stand, name, (AMPLE, cards, ()))

    def test_waits_stay(self):
        waits = [("a", 2, "b"), ("b", 0, "a"), ("b", 4, "b")]
        stand = stand_of(card("a", "all", 1), card("b", "all", 0, True), waits=waits)
        self.assert_pulled(WIDE, stand, "a", stand_of(card("a", "all", 2), card("b", "all", 0, True), waits=waits))

    def test_a_card_that_is_not_there(self):
        for name in ("x", "all", "la", "aa"):
            self.assert_not_pulled(NoCard, {"card": name}, BUSY, name)
        self.assert_not_pulled(NoCard, {"card": "a"}, stand_of(), "a")

    def test_a_card_that_is_out(self):
        for kind, way, bounds in WIDE[1]:
            self.assert_not_pulled(Out, {"card": "a"}, stand_of(card("a", kind, len(way) + 1)), "a")

    def test_a_blocked_card(self):
        for kind, way, bounds in WIDE[1]:
            for place in range(len(way) + 1):
                self.assert_not_pulled(Blocked, {"card": "a"}, stand_of(card("a", kind, place, True)), "a")

    def test_another_blocked_card_is_no_bar(self):
        stand = stand_of(card("a", "all", 0), card("b", "all", 1, True))
        self.assert_pulled(WIDE, stand, "a", stand_of(card("a", "all", 1), card("b", "all", 1, True)))


class BarredByWaits(Moves):
    def test_waits_at_all_lanes(self):
        for kind, way, bounds in WIDE[1]:
            lanes = (-1, *way, 4)
            for place in range(len(way) + 1):
                for lane in range(lanes[place] + 1, 5):
                    for other in range(5):
                        others = card("b", "all", other)
                        stand = stand_of(card("a", kind, place), others, waits=[("a", lane, "b")])
                        if lane <= lanes[place + 1]:
                            self.assert_not_pulled(Waits, {"card": "a", "other": "b"}, stand, "a")
                        else:
                            after = stand_of(card("a", kind, place + 1), others, waits=[("a", lane, "b")])
                            self.assert_pulled(WIDE, stand, "a", after)

    def test_waits_for_a_card_that_is_out_do_not_bar(self):
        for kind, way, bounds in WIDE[1]:
            for place in range(len(way) + 1):
                for lane in range(5):
                    waits = [("a", lane, "b")]
                    stand = stand_of(card("a", kind, place), card("b", "mid", 3), waits=waits)
                    after = stand_of(card("a", kind, place + 1), card("b", "mid", 3), waits=waits)
                    self.assert_pulled(WIDE, stand, "a", after)

    def test_a_wait_below_at_and_above_the_lane_it_comes_to(self):
        for lane, barred in ((1, True), (2, True), (3, True), (4, False)):
            stand = stand_of(card("a", "ends", 1), card("b", "all", 0), waits=[("a", lane, "b")])
            if barred:
                self.assert_not_pulled(Waits, {"card": "a", "other": "b"}, stand, "a")
            else:
                self.assertEqual(pulled(WIDE, stand, "a")[1][0], card("a", "ends", 2))

    def test_a_wait_for_out(self):
        for kind, way, bounds in WIDE[1]:
            last = len(way)
            stand = stand_of(card("a", kind, last), card("b", "all", 0), waits=[("a", 4, "b")])
            self.assert_not_pulled(Waits, {"card": "a", "other": "b"}, stand, "a")
            stand = stand_of(card("a", kind, last - 1), card("b", "all", 0), waits=[("a", 4, "b")])
            after = stand_of(card("a", kind, last), card("b", "all", 0), waits=[("a", 4, "b")])
            self.assert_pulled(WIDE, stand, "a", after)

    def test_a_card_that_waits_for_itself(self):
        for place, lane in enumerate((0, 1, 2, 3, 4)):
            stand = stand_of(card("a", "all", place), waits=[("a", lane, "a")])
            self.assert_not_pulled(Waits, {"card": "a", "other": "a"}, stand, "a")

    def test_the_first_wait_that_bars_is_told(self):
        cards = [card("a", "all", 0), card("b", "all", 0), card("c", "all", 5), card("d", "all", 1)]
        ends = [card("e", "ends", 1), card("f", "ends", 0)]
        for waits, other in (
            ([("a", 0, "b"), ("a", 0, "d")], "b"),
            ([("a", 0, "c"), ("a", 0, "d"), ("a", 0, "e")], "d"),
            ([("a", 0, "c"), ("a", 1, "b"), ("b", 0, "d")], None),
            ([("a", 0, "f"), ("a", 1, "b")], "f"),
            ([("b", 0, "f"), ("a", 0, "e")], "e"),
        ):
            stand = stand_of(*cards, *ends, waits=waits)
            if other is None:
                self.assertEqual(pulled(WIDE, stand, "a")[1][0], card("a", "all", 1))
            else:
                self.assert_not_pulled(Waits, {"card": "a", "other": other}, stand, "a")

    def test_the_first_is_by_lane_ahead_of_other(self):
        cards = [card("a", "ends", 1), card("b", "all", 0), card("c", "all", 0), card("d", "all", 0)]
        stand = stand_of(*cards, waits=[("a", 1, "d"), ("a", 2, "b"), ("a", 3, "c")])
        self.assert_not_pulled(Waits, {"card": "a", "other": "d"}, stand, "a")
        stand = stand_of(*cards, waits=[("a", 2, "c"), ("a", 2, "d"), ("a", 3, "b")])
        self.assert_not_pulled(Waits, {"card": "a", "other": "c"}, stand, "a")

    def test_waits_of_other_cards_do_not_bar(self):
        waits = [("b", 0, "a"), ("b", 0, "b"), ("c", 0, "b")]
        cards = [card("b", "all", 0), card("c", "all", 0)]
        stand = stand_of(card("a", "all", 0), *cards, waits=waits)
        self.assert_pulled(WIDE, stand, "a", stand_of(card("a", "all", 1), *cards, waits=waits))


class Bounds(Moves):
    def test_a_lane_up_to_its_bound(self):
        there = [card(name, "mid", 2) for name in "bcd"] + [card("e", "all", 3), card("f", "all", 3)]
        for bound in range(1, 6):
            bounds = (1, 1, bound, 1)
            stand = stand_of(card("a", "la", 0), *there[:bound], bounds=bounds)
            self.assert_not_pulled(Full, {"lane": "lc", "bound": bound}, stand, "a")
            stand = stand_of(card("a", "la", 0), *there[:bound - 1], bounds=bounds)
            self.assert_pulled(WIDE, stand, "a", stand_of(card("a", "la", 1), *there[:bound - 1], bounds=bounds))

    def test_a_lane_with_more_than_its_bound(self):
        there = [card(name, "mid", 2) for name in "bcd"]
        stand = stand_of(card("a", "la", 0), *there, bounds=(1, 1, 2, 1))
        self.assert_refused(Full, {"lane": "lc", "bound": 2}, pulled, WIDE, stand, "a")

    def test_bounds_below_and_above_those_of_the_plan(self):
        plan = ((("l", 4), ("m", 4)), (("k", (0, 1), (99, 99)),))
        for bound in range(1, 9):
            for place, lane, bounds in ((1, "l", (bound, 99)), (2, "m", (99, bound))):
                there = tuple(card(name, "k", place) for name in card_names(bound))
                fields = {"lane": lane, "bound": bound}
                before, after = card("zz", "k", place - 1), card("zz", "k", place)
                self.assert_not_pulled(Full, fields, (bounds, (*there, before), ()), "zz", plan)
                self.assert_pulled(plan, (bounds, (*there[1:], before), ()), "zz", (bounds, (*there[1:], after), ()))

    def test_bounds_below_and_above_those_of_the_plan_backwards(self):
        plan = ((("l", 4), ("m", 4)), (("k", (0, 1), (99, 99)),))
        for bound in range(1, 9):
            there = tuple(card(name, "k", 1) for name in card_names(bound))
            bounds = (bound, 99)
            before, after = card("zz", "k", 2), card("zz", "k", 1)
            self.assert_not_put_back(Full, {"lane": "l", "bound": bound}, (bounds, (*there, before), ()), "zz", plan)
            self.assert_put_back(plan, (bounds, (*there[1:], before), ()), "zz", (bounds, (*there[1:], after), ()))

    def test_a_kind_up_to_its_bound(self):
        for kind, way, bounds in WIDE[1]:
            for place, (lane, bound) in enumerate(zip(way, bounds)):
                for many in range(bound + 1):
                    others = [card(name, kind, place + 1) for name in card_names(many)]
                    stand = stand_of(card("zz", kind, place), *others)
                    if many == bound:
                        fields = {"lane": WIDE[0][lane][0], "kind": kind, "bound": bound}
                        self.assert_not_pulled(KindFull, fields, stand, "zz")
                    else:
                        self.assert_pulled(WIDE, stand, "zz", stand_of(card("zz", kind, place + 1), *others))

    def test_a_kind_up_to_its_bound_backwards(self):
        for kind, way, bounds in WIDE[1]:
            for place, (lane, bound) in list(enumerate(zip(way, bounds), start=1))[:-1]:
                for many in range(bound + 1):
                    others = [card(name, kind, place) for name in card_names(many)]
                    stand = stand_of(card("zz", kind, place + 1), *others)
                    if many == bound:
                        fields = {"lane": WIDE[0][lane][0], "kind": kind, "bound": bound}
                        self.assert_not_put_back(KindFull, fields, stand, "zz")
                    else:
                        self.assert_put_back(WIDE, stand, "zz", stand_of(card("zz", kind, place), *others))

    def test_other_kinds_there_do_not_fill_a_kind(self):
        others = [card("a", "mid", 2), card("b", "mid", 2), card("c", "mid", 2), card("d", "all", 3)]
        stand = stand_of(card("zz", "la", 0), *others)
        self.assert_pulled(WIDE, stand, "zz", stand_of(card("zz", "la", 1), *others))

    def test_the_yard_and_out_are_never_full(self):
        names = card_names(29)
        stand = ((1,), tuple(card(name, "bug", 2) for name in names) + (card("zz", "bug", 1),), ())
        after = ((1,), tuple(card(name, "bug", 2) for name in names) + (card("zz", "bug", 2),), ())
        self.assert_pulled(SMALL, stand, "zz", after)
        stand = ((1,), tuple(card(name, "bug", 0) for name in names) + (card("zz", "bug", 1),), ())
        after = ((1,), tuple(card(name, "bug", 0) for name in names) + (card("zz", "bug", 0),), ())
        self.assert_put_back(SMALL, stand, "zz", after)

    def test_the_last_lanes_bounds_are_not_those_of_out_or_the_yard(self):
        stand = stand_of(card("a", "all", 4), card("b", "all", 4), bounds=(1, 1, 1, 2))
        self.assert_pulled(WIDE, stand, "a", stand_of(card("a", "all", 5), card("b", "all", 4), bounds=(1, 1, 1, 2)))
        stand = stand_of(card("a", "all", 1), card("b", "all", 4), bounds=(1, 1, 1, 1))
        self.assert_put_back(WIDE, stand, "a", stand_of(card("a", "all", 0), card("b", "all", 4), bounds=(1, 1, 1, 1)))

    def test_the_ordinary_plan(self):
        stand = ((9, 3, 10), (card("a", "bug", 1), card("b", "bug", 2), card("c", "bug", 2)), ())
        self.assert_not_pulled(KindFull, {"lane": "doing", "kind": "bug", "bound": 2}, stand, "a", ORDINARY)
        stand = ((9, 2, 10), stand[1], ())
        self.assert_not_pulled(Full, {"lane": "doing", "bound": 2}, stand, "a", ORDINARY)
        stand = ((99,) * 6, (card("a", GREATEST[1][5][0], 6),), ())
        self.assert_pulled(GREATEST, stand, "a", ((99,) * 6, (card("a", GREATEST[1][5][0], 7),), ()))


class Order(Moves):
    """Where two refusals are due, the one told first goes first."""

    waits = [("a", 1, "w")]
    waiting = card("w", "all", 0)
    # Each of these two fills lb where its bound is 1; the first fills, with any bound, the kind mid there.
    of_the_kind = card("x", "mid", 1)
    of_another = card("x", "all", 2)

    def test_blocked_goes_ahead_of_all_behind(self):
        blocked = card("a", "mid", 0, True)
        for stand in (
            stand_of(blocked, self.waiting, waits=self.waits),
            stand_of(blocked, self.of_another, bounds=(1, 1, 1, 1)),
            stand_of(blocked, self.of_the_kind),
            stand_of(blocked, self.waiting, self.of_the_kind, waits=self.waits, bounds=(1, 1, 1, 1)),
        ):
            self.assert_not_pulled(Blocked, {"card": "a"}, stand, "a")

    def test_waits_go_ahead_of_full_and_kind_full(self):
        fields = {"card": "a", "other": "w"}
        mover = card("a", "mid", 0)
        for stand in (
            stand_of(mover, self.waiting, self.of_another, waits=self.waits, bounds=(1, 1, 1, 1)),
            stand_of(mover, self.waiting, self.of_the_kind, waits=self.waits),
            stand_of(mover, self.waiting, self.of_the_kind, waits=self.waits, bounds=(1, 1, 1, 1)),
        ):
            self.assert_not_pulled(Waits, fields, stand, "a")

    def test_full_goes_ahead_of_kind_full(self):
        mover = card("a", "mid", 0)
        stand = stand_of(mover, self.of_the_kind, bounds=(1, 1, 1, 1))
        self.assert_not_pulled(Full, {"lane": "lb", "bound": 1}, stand, "a")
        stand = stand_of(mover, self.of_the_kind, bounds=(1, 2, 1, 1))
        self.assert_not_pulled(KindFull, {"lane": "lb", "kind": "mid", "bound": 1}, stand, "a")
        stand = stand_of(mover, self.of_another, bounds=(1, 1, 1, 1))
        self.assert_not_pulled(Full, {"lane": "lb", "bound": 1}, stand, "a")

    def test_backwards(self):
        stand = stand_of(card("a", "mid", 0, True))
        self.assert_not_put_back(Blocked, {"card": "a"}, stand, "a")
        for there, bounds in ((self.of_another, (1, 1, 1, 1)), (self.of_the_kind, AMPLE), (self.of_the_kind, (1,) * 4)):
            stand = stand_of(card("a", "mid", 2, True), there, bounds=bounds)
            self.assert_not_put_back(Blocked, {"card": "a"}, stand, "a")
        stand = stand_of(card("a", "mid", 2), self.of_the_kind, bounds=(1, 1, 1, 1))
        self.assert_not_put_back(Full, {"lane": "lb", "bound": 1}, stand, "a")
        stand = stand_of(card("a", "mid", 2), self.of_the_kind, bounds=(1, 2, 1, 1))
        self.assert_not_put_back(KindFull, {"lane": "lb", "kind": "mid", "bound": 1}, stand, "a")

    def test_a_card_in_the_yard_with_the_lanes_full(self):
        stand = stand_of(card("a", "la", 0), card("x", "all", 4), card("y", "la", 1), bounds=(1, 1, 1, 1))
        self.assert_not_put_back(InYard, {"card": "a"}, stand, "a")


class PutBack(Moves):
    def test_on_each_place_of_each_way(self):
        for plan in STAND_PLANS:
            bounds = tuple(bound for name, bound in plan[0])
            for kind, way, kind_bounds in plan[1]:
                for place in range(1, len(way) + 1):
                    self.assert_put_back(
                        plan, (bounds, (card("a", kind, place),), ()), "a", (bounds, (card("a", kind, place - 1),), ())
                    )

    def test_a_card_that_is_not_there(self):
        for name in ("x", "all", "la", "aa"):
            self.assert_not_put_back(NoCard, {"card": name}, BUSY, name)

    def test_a_card_that_is_out(self):
        for kind, way, bounds in WIDE[1]:
            self.assert_not_put_back(Out, {"card": "a"}, stand_of(card("a", kind, len(way) + 1)), "a")

    def test_a_blocked_card(self):
        for kind, way, bounds in WIDE[1]:
            for place in range(len(way) + 1):
                self.assert_not_put_back(Blocked, {"card": "a"}, stand_of(card("a", kind, place, True)), "a")

    def test_a_card_in_the_yard(self):
        for kind, way, bounds in WIDE[1]:
            self.assert_not_put_back(InYard, {"card": "a"}, stand_of(card("a", kind, 0)), "a")

    def test_waits_do_not_bar(self):
        cards = [card("b", "all", 0), card("c", "all", 5)]
        for place, lane in ((1, 1), (2, 2), (3, 3), (4, 4)):
            waits = [("a", 0, "c"), ("a", lane, "a"), ("a", lane, "b"), ("b", 0, "a"), ("b", 0, "b")]
            stand = stand_of(card("a", "all", place), *cards, waits=waits)
            self.assert_put_back(WIDE, stand, "a", stand_of(card("a", "all", place - 1), *cards, waits=waits))

    def test_all_else_stays(self):
        stand = (AMPLE, BUSY[1], BUSY[2])
        cards = BUSY[1][:2] + (card("c", "all", 1),) + BUSY[1][3:]
        self.assert_put_back(WIDE, stand, "c", (AMPLE, cards, BUSY[2]))

    def test_pulled_and_then_put_back(self):
        for plan in STAND_PLANS:
            bounds = tuple(bound for name, bound in plan[0])
            for kind, way, kind_bounds in plan[1]:
                for place in range(len(way)):
                    stand = (bounds, (card("a", kind, place), card("b", kind, 0, True)), ())
                    self.assertEqual(put_back(plan, pulled(plan, stand, "a"), "a"), stand)

    def test_put_back_and_then_pulled(self):
        for kind, way, kind_bounds in WIDE[1]:
            for place in range(1, len(way) + 1):
                stand = stand_of(card("a", kind, place), card("b", "all", 0, True), waits=[("b", 0, "a")])
                self.assertEqual(pulled(WIDE, put_back(WIDE, stand, "a"), "a"), stand)

    def test_a_card_that_is_pulled_out_is_not_put_back(self):
        stand = pulled(WIDE, stand_of(card("a", "la", 1)), "a")
        self.assert_not_put_back(Out, {"card": "a"}, stand, "a")


if __name__ == "__main__":
    unittest.main()
