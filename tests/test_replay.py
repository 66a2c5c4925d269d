"""[12] and [14]: deeds done one behind the other."""

import copy
import random
import unittest

from cardlanes.deeds import Add, Back, Block, Bound, Clear, Let, Pull, Wait
from cardlanes.errors import (
    Blocked, Free, Full, InYard, KindFull, LaneError, Low, NoCard, NoKind, NoLane, NoWait, Out, Past, TooMany, Twice, Waits,
)
from cardlanes.replay import replayed
from cardlanes.stands import first_stand

from deed_model import Board, any_deed
from refusals import Refusals, shown_error
from stand_samples import STAND_PLANS, WIDE, card_names, is_stand_by_the_words, plan_of_lanes

EVEN = {"add": 3, "pull": 6, "back": 2, "block": 1, "clear": 1, "wait": 2, "let": 1, "bound": 1}

# Each deed can be done behind those ahead of it.
DEEDS = (
    Add("a", "all"), Add("b", "mid"), Pull("a"), Wait("b", "lc", "a"), Pull("b"), Block("a"), Bound("lb", 1), Clear("a"),
    Let("b", "a"), Back("b"), Pull("a"), Wait("a", "out", "b"),
)
STANDS = (
    ((4, 2, 3, 5), (), ()),
    ((4, 2, 3, 5), (("a", "all", 0, False),), ()),
    ((4, 2, 3, 5), (("a", "all", 0, False), ("b", "mid", 0, False)), ()),
    ((4, 2, 3, 5), (("a", "all", 1, False), ("b", "mid", 0, False)), ()),
    ((4, 2, 3, 5), (("a", "all", 1, False), ("b", "mid", 0, False)), (("b", 2, "a"),)),
    ((4, 2, 3, 5), (("a", "all", 1, False), ("b", "mid", 1, False)), (("b", 2, "a"),)),
    ((4, 2, 3, 5), (("a", "all", 1, True), ("b", "mid", 1, False)), (("b", 2, "a"),)),
    ((4, 1, 3, 5), (("a", "all", 1, True), ("b", "mid", 1, False)), (("b", 2, "a"),)),
    ((4, 1, 3, 5), (("a", "all", 1, False), ("b", "mid", 1, False)), (("b", 2, "a"),)),
    ((4, 1, 3, 5), (("a", "all", 1, False), ("b", "mid", 1, False)), ()),
    ((4, 1, 3, 5), (("a", "all", 1, False), ("b", "mid", 0, False)), ()),
    ((4, 1, 3, 5), (("a", "all", 2, False), ("b", "mid", 0, False)), ()),
    ((4, 1, 3, 5), (("a", "all", 2, False), ("b", "mid", 0, False)), (("a", 4, "b"),)),
)


class Replayed(Refusals):
    def test_no_deeds(self):
        for plan in STAND_PLANS:
            self.assertEqual(replayed(plan, []), [first_stand(plan)])

    def test_one_deed(self):
        for plan in STAND_PLANS:
            first = first_stand(plan)
            kind = plan[1][-1][0]
            self.assertEqual(replayed(plan, [Add("a", kind)]), [first, (first[0], (("a", kind, 0, False),), ())])

    def test_many_deeds(self):
        for many in range(len(DEEDS) + 1):
            told = replayed(WIDE, list(DEEDS[:many]))
            self.assertIs(type(told), list)
            self.assertEqual(told, list(STANDS[:many + 1]))

    def test_the_same_deed_twice(self):
        pull = Pull("a")
        stands = replayed(WIDE, [Add("a", "ends"), pull, pull, pull])
        self.assertEqual([stand[1][0][2] for stand in stands[1:]], [0, 1, 2, 3])

    def test_each_refusal_with_its_fields(self):
        add = [Add("a", "all"), Add("b", "mid"), Add("c", "mid"), Add("d", "la")]
        out = [*add, Pull("d"), Pull("d")]
        for ahead, deed, error, fields in (
            ([], Add("a", "x"), NoKind, {"kind": "x"}),
            ([], Pull("a"), NoCard, {"card": "a"}),
            ([], Bound("out", 1), NoLane, {"lane": "out"}),
            (add, Add("c", "all"), Twice, {"card": "c"}),
            (out, Pull("d"), Out, {"card": "d"}),
            ([*add, Block("a")], Back("a"), Blocked, {"card": "a"}),
            (add, Clear("a"), Free, {"card": "a"}),
            (add, Back("a"), InYard, {"card": "a"}),
            ([*add, Pull("a")], Wait("a", "la", "b"), Past, {"card": "a"}),
            ([*add, Wait("a", "la", "b")], Pull("a"), Waits, {"card": "a", "other": "b"}),
            ([*add, Bound("lb", 1), Pull("b")], Pull("c"), Full, {"lane": "lb", "bound": 1}),
            ([*add, Pull("b")], Pull("c"), KindFull, {"lane": "lb", "kind": "mid", "bound": 1}),
            ([*add, Pull("a"), Pull("a"), Pull("b")], Bound("lb", 1), Low, {"lane": "lb", "many": 2}),
            (add, Let("a", "b"), NoWait, {"card": "a"}),
            ([Add(name, "all") for name in card_names(30)], Add("zz", "all"), TooMany, {}),
        ):
            self.assert_clash(len(ahead), error, fields, replayed, WIDE, [*ahead, deed])

    def test_refused_at_each_place(self):
        for at in range(len(DEEDS) + 1):
            deeds = [*DEEDS[:at], Pull("x"), *DEEDS[at:]]
            self.assert_clash(at, NoCard, {"card": "x"}, replayed, WIDE, deeds)
            deeds = [*DEEDS[:at], Add("x", "nokind"), Bound("nolane", 3), *DEEDS[at:], Pull("x")]
            self.assert_clash(at, NoKind, {"kind": "nokind"}, replayed, WIDE, deeds)

    def test_what_is_told_is_the_very_refusal(self):
        error = NoCard("x")

        class Refuses(Pull):
            def done(self, plan, stand):
                raise error

        with self.assertRaises(LaneError) as caught:
            replayed(WIDE, [Add("a", "all"), Refuses("a")])
        self.assertIs(caught.exception.refusal, error)

    def test_told_lists_are_the_askers_own(self):
        deeds = list(DEEDS)
        told = replayed(WIDE, deeds)
        self.assertEqual(deeds, list(DEEDS))
        again = replayed(WIDE, deeds)
        told.clear()
        deeds.clear()
        self.assertEqual(again, list(STANDS))
        again[0] = None
        self.assertEqual(replayed(WIDE, list(DEEDS)), list(STANDS))

    def test_nothing_handed_in_is_changed_where_it_is_refused(self):
        deeds = [*DEEDS[:3], Pull("x"), *DEEDS[3:]]
        before = list(deeds)
        texts = [deed.written() for deed in deeds]
        plan = copy.deepcopy(WIDE)
        for each in range(2):
            self.assert_clash(3, NoCard, {"card": "x"}, replayed, plan, deeds)
        self.assertEqual(deeds, before)
        self.assertEqual([deed.written() for deed in deeds], texts)
        self.assertEqual(plan, WIDE)

    def test_long_rows_as_the_board_tells_them(self):
        chance = random.Random(12)
        clashes = 0
        for plan in (*STAND_PLANS, plan_of_lanes(6)):
            for each in range(40):
                deeds, stands, refusal = self.any_row(chance, plan)
                if refusal:
                    clashes += 1
                    with self.assertRaises(LaneError) as caught:
                        replayed(plan, deeds)
                    self.assertEqual(shown_error(caught.exception), ("Clash", {"at": len(stands) - 1, "refusal": refusal}))
                else:
                    self.assertEqual(replayed(plan, deeds), stands)
                    self.assertTrue(all(is_stand_by_the_words(plan, stand) for stand in stands))
        self.assertGreater(clashes, 50)

    def any_row(self, chance, plan):
        """A row of deeds that can be done, perhaps with one among them that cannot; its stands up to there; and why."""
        board = Board(plan)
        deeds, stands, spoilt = [], [board.stand()], chance.choice((5, 30, 1000))
        for each in range(60):
            deed = any_deed(chance, plan, list("abcdef"), EVEN)
            refusal = board.do(deed)
            if refusal is None:
                deeds.append(deed)
                stands.append(board.stand())
            elif each > spoilt:
                return [*deeds, deed, *deeds], stands, refusal
        return deeds, stands, None


if __name__ == "__main__":
    unittest.main()
