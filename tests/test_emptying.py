"""[21] and [22]: which cards can go, draining, and whether a stand can be emptied; and [3] of that."""

import random
import unittest

from cardlanes.emptying import can_go, drained, emptied, is_empty, places_of
from cardlanes.errors import LaneError
from cardlanes.papers import shows_ring, shows_row, shows_shut
from cardlanes.pulls import pulled
from cardlanes.stands import first_stand, is_stand

from emptying_model import all_out, all_stands, drained_by_the_words, row_empties, steps, word_of
from emptying_samples import BARRED, RING, SHUT, STUCK, TIGHT, any_stands, tight
from plan_samples import ORDINARY
from stand_samples import BUSY, ORDINARY_STAND, STAND_PLANS, WIDE, card_names, plan_of_lanes, rings_by_the_words


class Emptying(unittest.TestCase):
    def assert_emptied(self, plan, stand, most, expected):
        """Just this is told, each time, and nothing handed in is changed."""
        self.assertIs(is_stand(plan, stand), True, stand)
        kept = repr((plan, stand))
        for each in range(2):
            told = emptied(plan, stand, most)
            self.assertIs(type(told), tuple)
            self.assertEqual(told, expected)
        self.assertEqual(repr((plan, stand)), kept)

    def assert_row(self, plan, stand, most):
        """A row of pulls is told, and it does empty the stand."""
        self.assertIs(is_stand(plan, stand), True, stand)
        told = emptied(plan, stand, most)
        self.assertIs(type(told), tuple)
        self.assertEqual((len(told), told[0]), (2, "row"))
        self.assertTrue(row_empties(plan, stand, told[1]), told)


class CanGo(unittest.TestCase):
    def test_by_hand(self):
        for stand, cards in (
            (tight(), []), (tight(("a", "all", 3), ("b", "end", 2)), []), (BARRED, ["a", "b"]), (STUCK, []), (SHUT, ["c"]),
            (tight(("a", "all", 0, True), ("b", "end", 0)), ["b"]), (tight(("a", "all", 2), ("b", "end", 0)), ["a"]),
            (tight(("b", "ka", 0), ("a", "ka", 1)), ["a"]), (tight(("a", "all", 0), ("b", "all", 2), ("c", "ka", 0)), ["a", "b", "c"]),
            (tight(("a", "all", 0), waits=[("a", 0, "a")]), []), (tight(("a", "all", 0), waits=[("a", 1, "a")]), ["a"]),
        ):
            told = can_go(TIGHT, stand)
            self.assertIs(type(told), list)
            self.assertEqual(told, cards)
        self.assertEqual(can_go(WIDE, BUSY), ["c", "h", "i", "k"])
        self.assertEqual(can_go(ORDINARY, ORDINARY_STAND), [])

    def test_just_those_whose_pull_is_not_refused(self):
        for plan, stand in any_stands(40, 1):
            found = []
            for name, kind, place, blocked in stand[1]:
                try:
                    pulled(plan, stand, name)
                    found.append(name)
                except LaneError:
                    pass
            self.assertEqual(can_go(plan, stand), found)
            self.assertEqual(found, sorted(dict(steps(plan, stand))))

    def test_the_list_is_the_askers_own(self):
        told = can_go(TIGHT, BARRED)
        told.clear()
        self.assertEqual(can_go(TIGHT, BARRED), ["a", "b"])


class IsEmpty(unittest.TestCase):
    def test_by_hand(self):
        for plan in STAND_PLANS:
            self.assertIs(is_empty(plan, first_stand(plan)), True)
        for stand, empty in (
            (tight(("a", "all", 3)), True), (tight(("a", "all", 3), ("b", "end", 2), ("c", "ka", 2)), True),
            (tight(("a", "all", 2)), False), (tight(("a", "all", 0)), False), (tight(("a", "all", 3), ("b", "end", 1)), False),
            (tight(("a", "end", 0), ("b", "all", 3)), False), (tight(("a", "end", 0, True)), False),
            (tight(("a", "all", 3), waits=[("a", 0, "a")]), True), (tight(("a", "all", 3), bounds=(99, 99)), True),
        ):
            self.assertIs(is_empty(TIGHT, stand), empty)
        self.assertIs(is_empty(WIDE, BUSY), False)

    def test_any_stands(self):
        for plan, stand in any_stands(40, 2):
            self.assertIs(is_empty(plan, stand), all_out(plan, stand))


class PlacesOf(unittest.TestCase):
    def test_by_hand(self):
        self.assertEqual(places_of(first_stand(WIDE)), ())
        self.assertEqual(places_of(BUSY), (0, 1, 2, 3, 4, 5, 0, 2, 1, 3, 1))
        self.assertEqual(places_of(ORDINARY_STAND), (0, 2, 3, 2))
        self.assertEqual(places_of(SHUT), (1, 0, 0))
        self.assertIs(type(places_of(SHUT)), tuple)


class Drained(unittest.TestCase):
    def assert_drained(self, plan, stand, row):
        told = drained(plan, stand)
        self.assertIs(type(told), tuple)
        self.assertEqual(len(told), 2)
        self.assertIs(type(told[0]), list)
        self.assertEqual(told[0], row)
        for card in row:
            stand = pulled(plan, stand, card)
        self.assertEqual(told[1], stand)
        self.assertEqual(can_go(plan, stand), [])

    def test_nothing_to_pull(self):
        for plan in STAND_PLANS:
            self.assert_drained(plan, first_stand(plan), [])
        self.assert_drained(TIGHT, tight(("a", "all", 3), ("b", "end", 2)), [])
        self.assert_drained(TIGHT, tight(("a", "all", 1, True)), [])
        self.assert_drained(TIGHT, STUCK, [])

    def test_the_one_furthest_on_goes_first_of_several_the_least_name(self):
        self.assert_drained(TIGHT, tight(("a", "all", 0), ("b", "all", 0)), list("aaabbb"))
        self.assert_drained(TIGHT, tight(("a", "all", 0), ("b", "all", 1)), list("bbaaa"))
        self.assert_drained(TIGHT, tight(("a", "all", 0), ("b", "end", 1)), list("baaa"))
        self.assert_drained(TIGHT, tight(("b", "ka", 0), ("c", "end", 0), ("a", "all", 1)), list("aabbcc"))
        self.assert_drained(TIGHT, tight(("z", "all", 1), ("b", "ka", 0), ("a", "end", 0)), list("zzaabb"))

    def test_it_is_the_lane_and_not_the_place(self):
        # At place 1 the card of end is in lb, which is above la, where the card of all is at its place 1.
        self.assert_drained(TIGHT, tight(("a", "all", 1), ("b", "end", 1)), list("baa"))
        stand = ((4, 2, 3, 5), (("a", "all", 2, False), ("b", "la", 1, False), ("c", "ends", 2, False)), ())
        self.assert_drained(WIDE, stand, list("cbaaa"))

    def test_blocked_cards_and_waits(self):
        self.assert_drained(TIGHT, tight(("a", "all", 1, True), ("b", "end", 0)), list("bb"))
        self.assert_drained(TIGHT, tight(("a", "all", 0), ("b", "end", 0, True)), list("aaa"))
        self.assert_drained(TIGHT, tight(("a", "all", 0), ("b", "end", 0), waits=[("a", 0, "b")]), list("bbaaa"))
        self.assert_drained(TIGHT, BARRED, ["a"])
        self.assert_drained(TIGHT, SHUT, list("cc"))
        self.assert_drained(TIGHT, RING, list("cc"))

    def test_any_stands(self):
        for plan, stand in any_stands(40, 3):
            row, last = drained_by_the_words(plan, stand)
            self.assert_drained(plan, stand, row)
            self.assertEqual(drained(plan, stand), (row, last))

    def test_without_waits_and_blocked_cards_it_is_empty_then(self):
        for plan, stand in any_stands(25, 4, waits=0, most_cards=8):
            row, last = drained(plan, stand)
            self.assertIs(is_empty(plan, last), True)
            self.assertTrue(row_empties(plan, stand, row))
            self.assertEqual(emptied(plan, stand, 1)[0], "row")

    def test_thirty_cards(self):
        chance = random.Random(5)
        for plan in (*STAND_PLANS, plan_of_lanes(6), TIGHT):
            for bound in (1, 3, 99):
                cards = tuple((name, chance.choice(plan[1])[0], 0, False) for name in card_names(30))
                stand = ((bound,) * len(plan[0]), cards, ())
                row, last = drained(plan, stand)
                self.assertTrue(row_empties(plan, stand, row))
                self.assertIs(is_empty(plan, last), True)
                self.assertEqual(emptied(plan, stand, 200), ("row", row))

    def test_the_row_is_the_askers_own(self):
        told = drained(TIGHT, SHUT)
        told[0].clear()
        self.assertEqual(drained(TIGHT, SHUT)[0], ["c", "c"])


class Emptied(Emptying):
    def test_blocked(self):
        for most in (1, 60, 200):
            self.assert_emptied(TIGHT, tight(("a", "all", 0, True)), most, ("blocked", "a"))
            self.assert_emptied(TIGHT, tight(("a", "all", 0), ("b", "end", 1, True)), most, ("blocked", "b"))
            stand = tight(("d", "all", 0, True), ("b", "end", 1, True), ("a", "all", 3), ("c", "ka", 0, True))
            self.assert_emptied(TIGHT, stand, most, ("blocked", "b"))
        self.assert_emptied(WIDE, BUSY, 60, ("blocked", "b"))
        self.assert_emptied(ORDINARY, ORDINARY_STAND, 60, ("blocked", "bee"))

    def test_a_ring(self):
        for most in (1, 60, 200):
            self.assert_emptied(TIGHT, RING, most, ("ring", ["a", "b"]))
            stand = tight(("a", "all", 0), ("b", "end", 0), waits=[("b", 2, "b")])
            self.assert_emptied(TIGHT, stand, most, ("ring", ["b"]))

    def test_a_ring_of_a_card_that_is_out_is_none(self):
        stand = tight(("a", "all", 3), ("b", "end", 0), waits=[("a", 0, "a"), ("b", 0, "a")])
        self.assert_emptied(TIGHT, stand, 60, ("row", ["b", "b"]))

    def test_a_row_by_draining(self):
        for most in (1, 2, 60, 200):
            self.assert_emptied(TIGHT, tight(), most, ("row", []))
            self.assert_emptied(TIGHT, tight(("a", "all", 3), ("b", "end", 2)), most, ("row", []))
            self.assert_row(TIGHT, tight(("a", "all", 0), ("b", "end", 0), ("c", "ka", 0)), most)
            self.assert_row(TIGHT, tight(("a", "all", 0), ("b", "end", 0), waits=[("a", 0, "b")]), most)

    def test_a_row_by_all_stands_just_as_many_as_most(self):
        many = len(all_stands(TIGHT, BARRED))
        self.assertIn(many, range(5, 61))
        for most in (many, many + 1, 60, 200):
            self.assert_row(TIGHT, BARRED, most)
        for most in range(1, many):
            self.assert_emptied(TIGHT, BARRED, most, ("open",))

    def test_shut(self):
        self.assert_emptied(TIGHT, STUCK, 1, ("shut", [(1, 0)]))
        self.assert_emptied(TIGHT, STUCK, 200, ("shut", [(1, 0)]))
        for most in (3, 4, 60, 200):
            self.assert_emptied(TIGHT, SHUT, most, ("shut", [(1, 0, 0), (1, 0, 1), (1, 0, 2)]))
        for most in (1, 2):
            self.assert_emptied(TIGHT, SHUT, most, ("open",))

    def test_the_list_is_sorted_and_has_each_place_once(self):
        stand = tight(("a", "end", 0), ("b", "all", 1), ("c", "all", 0), ("d", "end", 0), waits=[("b", 1, "c")])
        expected = sorted(all_stands(TIGHT, stand))
        self.assertGreater(len(expected), 7)
        self.assert_emptied(TIGHT, stand, len(expected), ("shut", expected))
        self.assert_emptied(TIGHT, stand, len(expected) - 1, ("open",))
        told = emptied(TIGHT, stand, 60)[1]
        self.assertIs(type(told), list)
        for places in told:
            self.assertIs(type(places), tuple)

    def test_blocked_goes_ahead_of_all(self):
        ring = tight(("a", "all", 1), ("b", "all", 0), ("c", "end", 0, True), waits=[("a", 1, "b"), ("b", 2, "a")])
        shut = tight(("a", "all", 1), ("b", "all", 0), ("c", "end", 0, True), waits=[("a", 1, "b")])
        for stand in (ring, shut):
            for most in (1, 60):
                self.assert_emptied(TIGHT, stand, most, ("blocked", "c"))

    def test_a_ring_goes_ahead_of_open_and_shut(self):
        self.assertGreater(len(all_stands(TIGHT, RING)), 2)
        self.assert_emptied(TIGHT, RING, 1, ("ring", ["a", "b"]))
        self.assert_emptied(TIGHT, RING, 3, ("ring", ["a", "b"]))

    def test_a_row_by_draining_goes_ahead_of_open(self):
        stand = tight(("a", "all", 0), ("b", "end", 0))
        self.assertGreater(len(all_stands(TIGHT, stand)), 5)
        self.assert_row(TIGHT, stand, 1)

    def test_open_goes_ahead_of_a_row_and_of_shut(self):
        stands = all_stands(TIGHT, BARRED)
        self.assertTrue(any(all_out(TIGHT, stand) for stand in stands.values()))
        self.assert_emptied(TIGHT, BARRED, len(stands) - 1, ("open",))
        self.assert_emptied(TIGHT, SHUT, 2, ("open",))

    def test_great_stands_are_open_by_a_small_most(self):
        plan = plan_of_lanes(6)
        names = card_names(30)
        # The first card bars the way of all others, and waits for the last one.
        cards = ((names[0], "all", 1, False), *((name, "all", 0, False) for name in names[1:]))
        stuck = ((1,) + (99,) * 5, cards, ((names[0], 1, names[-1]),))
        self.assert_emptied(plan, stuck, 1, ("shut", [(1,) + (0,) * 29]))
        cards = ((names[0], "all", 1, False), *((name, "last", 0, False) for name in names[1:-1]), (names[-1], "all", 0, False))
        free = ((1,) + (99,) * 5, cards, ((names[0], 1, names[-1]),))
        for most in (1, 30, 59, 60):
            self.assert_emptied(plan, free, most, ("open",))

    def test_any_stands(self):
        came = {}
        for plan, stand in any_stands(30, 6):
            self.assert_as_told(plan, stand, came)
        for plan, stand in any_stands(100, 7, most_cards=4, waits=5):
            self.assert_as_told(plan, stand, came)
        for word in ("blocked", "ring", "row", "open", "shut", "row behind draining"):
            self.assertGreater(came.get(word, 0), 8, word)

    def assert_as_told(self, plan, stand, came):
        stands = all_stands(plan, stand, 60)
        mosts = {1, 5, 60} if stands is None else {1, 5, 60, len(stands), max(1, len(stands) - 1)}
        for most in mosts:
            told = emptied(plan, stand, most)
            word = word_of(plan, stand, most)
            self.assertEqual(told[0], word)
            came[word] = came.get(word, 0) + 1
            if word == "row" and not all_out(plan, drained_by_the_words(plan, stand)[1]):
                came["row behind draining"] = came.get("row behind draining", 0) + 1
            self.assert_shown(plan, stand, told)

    def assert_shown(self, plan, stand, told):
        """What comes with the word is right, and is taken where it is handed in again."""
        if told[0] == "blocked":
            self.assertEqual(told, ("blocked", min(card[0] for card in stand[1] if card[3])))
        elif told[0] == "ring":
            self.assertEqual(len(told), 2)
            self.assertIn(told[1], rings_by_the_words(plan, stand))
            self.assertIs(shows_ring(plan, stand, told[1]), True)
        elif told[0] == "row":
            self.assertEqual(len(told), 2)
            self.assertTrue(row_empties(plan, stand, told[1]))
            self.assertIs(shows_row(plan, stand, told[1]), True)
        elif told[0] == "shut":
            self.assertEqual(told, ("shut", sorted(all_stands(plan, stand))))
            self.assertIs(shows_shut(plan, stand, told[1]), True)
        else:
            self.assertEqual(told, ("open",))

    def test_told_lists_are_the_askers_own(self):
        for stand in (RING, SHUT, BARRED, tight(("a", "all", 0))):
            told = emptied(TIGHT, stand, 60)
            kept = list(told[1])
            told[1].clear()
            self.assertEqual(emptied(TIGHT, stand, 60)[1], kept)


if __name__ == "__main__":
    unittest.main()
