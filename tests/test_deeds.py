"""[12] deeds, and their texts as [13] tells them."""

import inspect
import unittest

from cardlanes import deeds
from cardlanes.deeds import Add, Back, Block, Bound, Clear, Deed, Let, Pull, Wait
from cardlanes.errors import (
    Blocked, Free, Full, InYard, KindFull, Low, NoCard, NoKind, NoLane, NoWait, Out, Past, TooMany, Twice, Waits,
)
from cardlanes.stands import first_stand, is_stand

from plan_samples import ORDINARY, SMALL
from refusals import Refusals
from stand_samples import BUSY, STAND_PLANS, WIDE, card_names, stand_of_waits

AMPLE = (99, 99, 99, 99)


def stand_of(*cards, waits=(), bounds=AMPLE):
    """A stand of WIDE."""
    return (bounds, tuple(sorted(cards)), tuple(sorted(waits)))


class Deeds(Refusals):
    def assert_done(self, deed, stand, after, plan=WIDE):
        """The deed leads from one stand to the other, each time anew, and stays as it was."""
        before = dict(vars(deed))
        self.assertIs(is_stand(plan, stand), True, stand)
        self.assertEqual(deed.done(plan, stand), after)
        self.assertEqual(deed.done(plan, stand), after)
        self.assertIs(is_stand(plan, after), True, after)
        self.assertEqual(vars(deed), before)

    def assert_not_done(self, error, fields, deed, stand, plan=WIDE):
        before = dict(vars(deed))
        self.assertIs(is_stand(plan, stand), True, stand)
        self.assert_refused(error, fields, deed.done, plan, stand)
        self.assert_refused(error, fields, deed.done, plan, stand)
        self.assertEqual(vars(deed), before)


class Classes(unittest.TestCase):
    told = (
        (Add("a", "b"), Add), (Pull("a"), Pull), (Back("a"), Back), (Block("a"), Block), (Clear("a"), Clear),
        (Wait("a", "out", "b"), Wait), (Let("a", "b"), Let), (Bound("a", 1), Bound),
    )

    def test_each_is_a_deed_and_none_is_another(self):
        for deed, made in self.told:
            self.assertIs(type(deed), made)
            self.assertEqual([each for one, each in self.told if isinstance(deed, each)], [made])
            self.assertIsInstance(deed, Deed)

    def test_each_defines_its_methods_itself(self):
        for made in (Deed, *(each for deed, each in self.told)):
            for name, parameters in (("done", ["self", "plan", "stand"]), ("written", ["self"])):
                self.assertIn(name, vars(made))
                self.assertEqual(list(inspect.signature(vars(made)[name]).parameters), parameters)

    def test_the_base_is_made_of_nothing(self):
        self.assertIsInstance(deeds.Deed(), Deed)

    def test_made_by_their_arguments_names(self):
        self.assertEqual(Add(card="a", kind="k").written(), "add a k")
        for made in (Pull, Back, Block, Clear):
            self.assertEqual(made(card="a").written(), made("a").written())
        self.assertEqual(Wait(card="a", lane="l", other="b").written(), "wait a l b")
        self.assertEqual(Let(card="a", other="b").written(), "let a b")
        self.assertEqual(Bound(lane="l", bound=3).written(), "bound l 3")


class Texts(unittest.TestCase):
    def test_each_deeds_text(self):
        for deed, text in (
            (Add("axe", "bug"), "add axe bug"),
            (Pull("axe"), "pull axe"),
            (Back("axe"), "back axe"),
            (Block("axe"), "block axe"),
            (Clear("axe"), "clear axe"),
            (Wait("axe", "doing", "bee"), "wait axe doing bee"),
            (Wait("axe", "out", "axe"), "wait axe out axe"),
            (Let("axe", "bee"), "let axe bee"),
            (Bound("doing", 1), "bound doing 1"),
            (Bound("doing", 10), "bound doing 10"),
            (Bound("abcdefgh", 99), "bound abcdefgh 99"),
            (Add("z", "a"), "add z a"),
            (Add("pull", "add"), "add pull add"),
        ):
            self.assertEqual(deed.written(), text)
            self.assertEqual(deed.written(), text)
            self.assertIs(type(deed.written()), str)

    def test_a_text_stays_when_the_deed_is_done_or_refused(self):
        deed = Add("a", "all")
        deed.done(WIDE, stand_of())
        with self.assertRaises(Twice):
            deed.done(WIDE, BUSY)
        self.assertEqual(deed.written(), "add a all")


class Adding(Deeds):
    def test_the_card_is_in_the_yard_not_blocked(self):
        for plan in STAND_PLANS:
            for kind, way, bounds in plan[1]:
                first = first_stand(plan)
                self.assert_done(Add("x", kind), first, (first[0], (("x", kind, 0, False),), ()), plan)

    def test_at_each_place_among_the_others(self):
        cards = (("b", "mid", 2, True), ("d", "all", 0, False), ("f", "ends", 3, False))
        waits = [("b", 3, "d"), ("d", 0, "f")]
        for name in ("a", "bb", "c", "da", "e", "fa", "z"):
            after = stand_of(*cards, (name, "ends", 0, False), waits=waits)
            self.assert_done(Add(name, "ends"), stand_of(*cards, waits=waits), after)

    def test_a_card_may_have_a_kinds_or_a_lanes_name(self):
        self.assert_done(Add("la", "la"), stand_of(), stand_of(("la", "la", 0, False)))

    def test_the_lanes_being_full_is_no_bar(self):
        there = ("a", "bug", 1, False)
        self.assert_done(Add("b", "bug"), ((1,), (there,), ()), ((1,), (there, ("b", "bug", 0, False)), ()), SMALL)

    def test_a_kind_that_is_not_there(self):
        for kind in ("bug", "lb", "al", "alls", "nokind"):
            self.assert_not_done(NoKind, {"kind": kind}, Add("x", kind), BUSY)

    def test_a_card_of_that_name(self):
        for card in BUSY[1]:
            for kind in ("all", "mid"):
                self.assert_not_done(Twice, {"card": card[0]}, Add(card[0], kind), BUSY)

    def test_the_thirtieth_and_the_thirty_first(self):
        for place in (0, 5):
            cards = [(name, "all", place, False) for name in card_names(30)]
            self.assert_done(Add("zz", "mid"), stand_of(*cards[:29]), stand_of(*cards[:29], ("zz", "mid", 0, False)))
            self.assert_not_done(TooMany, {}, Add("zz", "mid"), stand_of(*cards))

    def test_the_order_of_the_refusals(self):
        full = stand_of(*((name, "all", 0, False) for name in card_names(30)))
        self.assert_not_done(NoKind, {"kind": "x"}, Add("a", "x"), BUSY)
        self.assert_not_done(NoKind, {"kind": "x"}, Add("aa", "x"), full)
        self.assert_not_done(NoKind, {"kind": "x"}, Add("zz", "x"), full)
        self.assert_not_done(Twice, {"card": "aa"}, Add("aa", "all"), full)

    def test_done_again(self):
        deed = Add("a", "all")
        after = deed.done(WIDE, stand_of())
        self.assert_not_done(Twice, {"card": "a"}, deed, after)


class PullingAndPuttingBack(Deeds):
    def test_pull(self):
        deed = Pull("a")
        for place in range(5):
            self.assert_done(deed, stand_of(("a", "all", place, False)), stand_of(("a", "all", place + 1, False)))
        self.assert_not_done(Out, {"card": "a"}, deed, stand_of(("a", "all", 5, False)))

    def test_back(self):
        deed = Back("a")
        for place in range(1, 5):
            self.assert_done(deed, stand_of(("a", "all", place, False)), stand_of(("a", "all", place - 1, False)))
        self.assert_not_done(InYard, {"card": "a"}, deed, stand_of(("a", "all", 0, False)))
        self.assert_not_done(Out, {"card": "a"}, deed, stand_of(("a", "all", 5, False)))

    def test_refused(self):
        for made in (Pull, Back):
            self.assert_not_done(NoCard, {"card": "x"}, made("x"), BUSY)
            self.assert_not_done(Blocked, {"card": "b"}, made("b"), BUSY)
        stand = stand_of(("a", "mid", 0, False), ("b", "all", 0, False), waits=[("a", 1, "b")])
        self.assert_not_done(Waits, {"card": "a", "other": "b"}, Pull("a"), stand)
        there = ("b", "mid", 1, False)
        for deed, place in ((Pull("a"), 0), (Back("a"), 2)):
            stand = stand_of(("a", "mid", place, False), there)
            self.assert_not_done(KindFull, {"lane": "lb", "kind": "mid", "bound": 1}, deed, stand)
            stand = stand_of(("a", "mid", place, False), there, bounds=(1, 1, 1, 1))
            self.assert_not_done(Full, {"lane": "lb", "bound": 1}, deed, stand)


class BlockingAndClearing(Deeds):
    def test_at_each_place(self):
        for kind, way, bounds in WIDE[1]:
            for place in range(len(way) + 1):
                there = ("b", "all", 0, True)
                free = stand_of(("a", kind, place, False), there)
                blocked = stand_of(("a", kind, place, True), there)
                self.assert_done(Block("a"), free, blocked)
                self.assert_done(Clear("a"), blocked, free)
                self.assert_not_done(Blocked, {"card": "a"}, Block("a"), blocked)
                self.assert_not_done(Free, {"card": "a"}, Clear("a"), free)

    def test_a_card_that_is_out(self):
        for kind, way, bounds in WIDE[1]:
            stand = stand_of(("a", kind, len(way) + 1, False))
            self.assert_not_done(Out, {"card": "a"}, Block("a"), stand)
            self.assert_not_done(Free, {"card": "a"}, Clear("a"), stand)

    def test_a_card_that_is_not_there(self):
        for name in ("x", "all", "la"):
            self.assert_not_done(NoCard, {"card": name}, Block(name), BUSY)
            self.assert_not_done(NoCard, {"card": name}, Clear(name), BUSY)

    def test_all_else_stays(self):
        cards = BUSY[1][:2] + (("c", "all", 2, True),) + BUSY[1][3:]
        self.assert_done(Block("c"), BUSY, (BUSY[0], cards, BUSY[2]))
        self.assert_done(Clear("c"), (BUSY[0], cards, BUSY[2]), BUSY)


class WaitingAndLetting(Deeds):
    def test_lanes_by_their_names_and_out(self):
        cards = (("a", "all", 0, False), ("b", "all", 1, False))
        for number, name in enumerate(("la", "lb", "lc", "ld", "out")):
            self.assert_done(Wait("a", name, "b"), stand_of(*cards), stand_of(*cards, waits=[("a", number, "b")]))
        self.assert_done(
            Wait("a", "out", "a"), ((1,), (("a", "bug", 1, False),), ()),
            ((1,), (("a", "bug", 1, False),), (("a", 1, "a"),)), SMALL,
        )

    def test_one_that_stands_already(self):
        names = ("la", "lb", "lc", "ld", "out")
        for card, lane, other in BUSY[2]:
            self.assert_done(Wait(card, names[lane], other), BUSY, BUSY)

    def test_a_lane_of_no_such_name(self):
        for name in ("le", "yard", "all", "l", "outs"):
            self.assert_not_done(NoLane, {"lane": name}, Wait("a", name, "b"), BUSY)

    def test_past(self):
        cards = (("a", "all", 2, False), ("b", "all", 4, False))
        for name in ("la", "lb"):
            self.assert_not_done(Past, {"card": "a"}, Wait("a", name, "b"), stand_of(*cards))
            self.assert_not_done(Past, {"card": "a"}, Wait("a", name, "a"), stand_of(*cards))
        out = (cards[0], ("b", "all", 5, False))
        self.assert_done(Wait("a", "la", "b"), stand_of(*out), stand_of(*out, waits=[("a", 0, "b")]))

    def test_the_sixty_first(self):
        plan, stand = stand_of_waits(59)
        after = (stand[0], stand[1], (*stand[2], ("ad", 6, "ad")))
        self.assert_done(Wait("ad", "out", "ad"), stand, after, plan)
        plan, stand = stand_of_waits(60)
        self.assert_not_done(TooMany, {}, Wait("ad", "out", "ad"), stand, plan)
        self.assert_done(Wait("aa", "a", "aa"), stand, stand, plan)

    def test_the_order_of_the_refusals_of_a_wait(self):
        stand = stand_of(("a", "all", 3, False), ("b", "all", 1, False))
        for lane in ("nolane", "la", "out"):
            self.assert_not_done(NoCard, {"card": "x"}, Wait("x", lane, "y"), stand)
            self.assert_not_done(NoCard, {"card": "x"}, Wait("x", lane, "b"), stand)
            self.assert_not_done(NoCard, {"card": "y"}, Wait("a", lane, "y"), stand)
        self.assert_not_done(NoLane, {"lane": "nolane"}, Wait("a", "nolane", "b"), stand)
        plan, (bounds, cards, waits) = stand_of_waits(60)
        stand = (bounds, (*cards, ("zz", "all", 1, False)), waits)
        self.assert_not_done(NoCard, {"card": "x"}, Wait("x", "nolane", "zz"), stand, plan)
        self.assert_not_done(NoCard, {"card": "x"}, Wait("zz", "nolane", "x"), stand, plan)
        self.assert_not_done(NoLane, {"lane": "nolane"}, Wait("zz", "nolane", "aa"), stand, plan)
        self.assert_not_done(Past, {"card": "zz"}, Wait("zz", "a", "aa"), stand, plan)
        self.assert_not_done(TooMany, {}, Wait("zz", "b", "aa"), stand, plan)

    def test_let(self):
        cards = (("a", "all", 0, False), ("b", "all", 1, False))
        waits = [("a", 0, "a"), ("a", 0, "b"), ("a", 3, "b"), ("b", 4, "a")]
        stand = stand_of(*cards, waits=waits)
        self.assert_done(Let("a", "b"), stand, stand_of(*cards, waits=[("a", 0, "a"), ("b", 4, "a")]))
        self.assert_done(Let("a", "a"), stand, stand_of(*cards, waits=waits[1:]))
        self.assert_done(Let("b", "a"), stand, stand_of(*cards, waits=waits[:3]))
        self.assert_not_done(NoWait, {"card": "b"}, Let("b", "b"), stand)

    def test_the_order_of_the_refusals_of_let(self):
        self.assert_not_done(NoCard, {"card": "x"}, Let("x", "y"), BUSY)
        self.assert_not_done(NoCard, {"card": "x"}, Let("x", "b"), BUSY)
        self.assert_not_done(NoCard, {"card": "y"}, Let("a", "y"), BUSY)
        self.assert_not_done(NoWait, {"card": "g"}, Let("g", "a"), BUSY)


class Bounding(Deeds):
    def test_each_lane_has_this_bound_then(self):
        for at, name in enumerate(("la", "lb", "lc", "ld")):
            for bound in (1, 2, 98, 99):
                bounds = AMPLE[:at] + (bound,) + AMPLE[at + 1:]
                self.assert_done(Bound(name, bound), (AMPLE, (), ()), (bounds, (), ()))

    def test_the_same_bound_again(self):
        for (name, plans_bound), bound in zip(WIDE[0], BUSY[0]):
            self.assert_done(Bound(name, bound), BUSY, BUSY)

    def test_down_to_how_many_cards_it_has(self):
        cards = [("a", "all", 3, True), ("b", "mid", 2, False), ("c", "la", 1, False), ("d", "all", 0, False)]
        cards += [("e", "all", 5, False), ("f", "all", 4, False)]
        stand = stand_of(*cards)
        self.assert_done(Bound("lc", 3), stand, stand_of(*cards, bounds=(99, 99, 3, 99)))
        self.assert_done(Bound("lc", 4), stand, stand_of(*cards, bounds=(99, 99, 4, 99)))
        for bound in (1, 2):
            self.assert_not_done(Low, {"lane": "lc", "many": 3}, Bound("lc", bound), stand)
        self.assert_done(Bound("la", 1), stand, stand_of(*cards, bounds=(1, 99, 99, 99)))

    def test_a_lane_of_no_such_name(self):
        for name in ("le", "out", "yard", "all", "l"):
            for bound in (1, 99):
                self.assert_not_done(NoLane, {"lane": name}, Bound(name, bound), BUSY)

    def test_the_ordinary_plan(self):
        stand = ((9, 3, 10), (("a", "bug", 2, False), ("b", "chore", 1, False)), ())
        self.assert_done(Bound("doing", 2), stand, ((9, 2, 10), *stand[1:]), ORDINARY)
        self.assert_not_done(Low, {"lane": "doing", "many": 2}, Bound("doing", 1), stand, ORDINARY)


if __name__ == "__main__":
    unittest.main()
