"""[10], [11] waits and rings; and [2] of what is handed in there."""

import copy
import itertools
import random
import unittest

from cardlanes.errors import NoCard, NoLane, NoWait, Past, TooMany
from cardlanes.stands import is_stand
from cardlanes.waits import is_ring, ring_of, with_wait, without_waits

from plan_samples import ODD_THINGS, ORDINARY, SMALL
from refusals import Refusals
from stand_samples import (
    BUSY, BUSY_LANES, ORDINARY_STAND, PLANS_AND_STANDS, SMALL_STAND, STAND_PLANS, WIDE, rings_by_the_words,
    stand_of_waits,
)

BOUNDS = (99, 99, 99, 99)


def yard(names, waits=()):
    """A stand of WIDE with cards in the yard."""
    return (BOUNDS, tuple((name, "all", 0, False) for name in sorted(names)), tuple(sorted(waits)))


def placed(places, waits=()):
    """A stand of WIDE with cards of the kind all at these places."""
    cards = tuple((name, "all", places[name], False) for name in sorted(places))
    return (BOUNDS, cards, tuple(sorted(waits)))


class WithWait(Refusals):
    def assert_waits(self, plan, stand, wait):
        """The wait comes in among the others at its place, and nothing else is changed."""
        card, lane, other = wait
        after = with_wait(plan, stand, card, lane, other)
        self.assertEqual(after, (stand[0], stand[1], tuple(sorted({*stand[2], wait}))))
        self.assertIs(is_stand(plan, after), True)

    def test_one_more_at_each_place_among_the_others(self):
        waits = [("a", 1, "b"), ("a", 1, "c"), ("a", 3, "a"), ("b", 0, "b"), ("c", 2, "c")]
        for wait in itertools.product("abc", range(5), "abc"):
            self.assert_waits(WIDE, yard("abc", waits), wait)

    def test_the_very_tuple(self):
        self.assertEqual(with_wait(WIDE, yard("abc"), "b", 2, "a"), yard("abc", [("b", 2, "a")]))
        self.assertEqual(
            with_wait(WIDE, yard("abc", [("a", 4, "a"), ("b", 2, "b")]), "b", 2, "a")[2],
            (("a", 4, "a"), ("b", 2, "a"), ("b", 2, "b")),
        )

    def test_one_that_stands_already(self):
        for wait in BUSY[2]:
            self.assertEqual(with_wait(WIDE, BUSY, *wait), BUSY)

    def test_a_card_that_waits_for_itself(self):
        for lane in range(5):
            self.assert_waits(WIDE, yard("a"), ("a", lane, "a"))

    def test_blocked_cards_may_wait(self):
        stand = (BOUNDS, (("a", "all", 0, True), ("b", "all", 1, True)), ())
        self.assert_waits(WIDE, stand, ("a", 0, "b"))

    def test_cards_that_are_not_there(self):
        for name in ("x", "all", "la", "bb"):
            self.assert_refused(NoCard, {"card": name}, with_wait, WIDE, yard("abc"), name, 1, "a")
            self.assert_refused(NoCard, {"card": name}, with_wait, WIDE, yard("abc"), "a", 1, name)
        self.assert_refused(NoCard, {"card": "x"}, with_wait, WIDE, yard("abc"), "x", 1, "y")

    def test_lanes(self):
        for plan in STAND_PLANS:
            many = len(plan[0])
            stand = ((9,) * many, (("a", plan[1][0][0], 0, False),), ())
            for lane in range(many + 1):
                self.assert_waits(plan, stand, ("a", lane, "a"))
            for lane in (-(10 ** 59), -many, -2, -1, many + 1, many + 2, 99, 10 ** 60 - 1):
                self.assert_refused(NoLane, {"lane": lane}, with_wait, plan, stand, "a", lane, "a")

    def test_past_at_all_places(self):
        for kind, way, bounds in WIDE[1]:
            for place, at in enumerate((-1, *way, 4)):
                for other in range(6):
                    for lane in range(5):
                        stand = (BOUNDS, (("a", kind, place, False), ("b", "all", other, False)), ())
                        if at < lane or other == 5:
                            self.assert_waits(WIDE, stand, ("a", lane, "b"))
                        else:
                            self.assert_refused(Past, {"card": "a"}, with_wait, WIDE, stand, "a", lane, "b")

    def test_past_for_itself(self):
        for place, at in enumerate((-1, 0, 1, 2, 3, 4)):
            for lane in range(5):
                if at < lane or at == 4:
                    self.assert_waits(WIDE, placed({"a": place}), ("a", lane, "a"))
                else:
                    stand = placed({"a": place})
                    self.assert_refused(Past, {"card": "a"}, with_wait, WIDE, stand, "a", lane, "a")

    def test_the_sixtieth_and_the_sixty_first(self):
        for many in (58, 59):
            plan, stand = stand_of_waits(many)
            self.assert_waits(plan, stand, ("ad", 6, "ad"))
        plan, stand = stand_of_waits(60)
        self.assert_refused(TooMany, {}, with_wait, plan, stand, "ad", 6, "ad")

    def test_with_sixty_one_that_stands_already(self):
        plan, stand = stand_of_waits(60)
        for wait in stand[2]:
            self.assertEqual(with_wait(plan, stand, *wait), stand)

    def test_too_many_is_made_with_a_text(self):
        plan, stand = stand_of_waits(60)
        with self.assertRaises(TooMany) as caught:
            with_wait(plan, stand, "ad", 6, "ad")
        self.assertIs(type(caught.exception.args[0]), str)

    def test_the_order_of_the_refusals(self):
        stand = placed({"a": 3, "b": 1})
        self.assert_refused(NoCard, {"card": "x"}, with_wait, WIDE, stand, "x", 9, "y")
        self.assert_refused(NoCard, {"card": "x"}, with_wait, WIDE, stand, "x", 9, "a")
        self.assert_refused(NoCard, {"card": "y"}, with_wait, WIDE, stand, "a", 9, "y")
        self.assert_refused(NoCard, {"card": "y"}, with_wait, WIDE, stand, "a", -1, "y")
        self.assert_refused(NoCard, {"card": "y"}, with_wait, WIDE, stand, "a", 0, "y")
        self.assert_refused(NoLane, {"lane": -1}, with_wait, WIDE, stand, "a", -1, "b")

    def test_the_order_of_the_refusals_with_sixty_waits(self):
        plan, (bounds, cards, waits) = stand_of_waits(60)
        stand = (bounds, (*cards, ("zz", "all", 1, False)), waits)
        self.assertIs(is_stand(plan, stand), True)
        self.assert_refused(NoCard, {"card": "x"}, with_wait, plan, stand, "x", 0, "zz")
        self.assert_refused(NoCard, {"card": "x"}, with_wait, plan, stand, "zz", 0, "x")
        self.assert_refused(NoLane, {"lane": 7}, with_wait, plan, stand, "zz", 7, "zz")
        self.assert_refused(Past, {"card": "zz"}, with_wait, plan, stand, "zz", 0, "aa")
        self.assert_refused(TooMany, {}, with_wait, plan, stand, "zz", 1, "aa")


class WithoutWaits(Refusals):
    def test_several_at_once(self):
        waits = [("a", 0, "b"), ("a", 0, "c"), ("a", 2, "b"), ("a", 4, "b"), ("b", 0, "a"), ("b", 1, "b"), ("c", 0, "b")]
        stand = yard("abc", waits)
        for card, other in {(wait[0], wait[2]) for wait in waits}:
            left = tuple(wait for wait in waits if (wait[0], wait[2]) != (card, other))
            self.assertEqual(without_waits(stand, card, other), (stand[0], stand[1], left))
        self.assertEqual(len(without_waits(stand, "a", "b")[2]), 4)

    def test_of_a_busy_stand(self):
        for card, lane, other in BUSY[2]:
            after = without_waits(BUSY, card, other)
            self.assertEqual(after[:2], BUSY[:2])
            self.assertEqual(after[2], tuple(wait for wait in BUSY[2] if wait != (card, lane, other)))
            self.assertIs(is_stand(WIDE, after), True)

    def test_it_waits_for_itself(self):
        stand = yard("ab", [("a", 0, "a"), ("a", 1, "a"), ("a", 1, "b")])
        self.assertEqual(without_waits(stand, "a", "a"), yard("ab", [("a", 1, "b")]))

    def test_with_a_wait_and_without_it(self):
        stand = yard("abc", [("a", 1, "c")])
        self.assertEqual(without_waits(with_wait(WIDE, stand, "b", 2, "a"), "b", "a"), stand)

    def test_cards_that_are_not_there(self):
        stand = yard("abc", [("a", 1, "b")])
        for name in ("x", "all", "la", "bb"):
            self.assert_refused(NoCard, {"card": name}, without_waits, stand, name, "b")
            self.assert_refused(NoCard, {"card": name}, without_waits, stand, "a", name)
        self.assert_refused(NoCard, {"card": "x"}, without_waits, stand, "x", "y")

    def test_no_such_wait(self):
        stand = yard("abc", [("a", 1, "b"), ("b", 1, "c")])
        for card, other in itertools.product("abc", "abc"):
            if (card, other) not in (("a", "b"), ("b", "c")):
                self.assert_refused(NoWait, {"card": card}, without_waits, stand, card, other)
        self.assert_refused(NoWait, {"card": "b"}, without_waits, yard("ab"), "b", "a")


# Each with the stand and all of its rings.
STANDS_AND_RINGS = (
    (yard(""), []),
    (yard("abc"), []),
    (yard("abc", [("a", 0, "b"), ("b", 0, "c"), ("a", 0, "c")]), []),
    (yard("abc", [("b", 4, "b")]), [["b"]]),
    (yard("abc", [("b", 0, "b"), ("c", 0, "c")]), [["b"], ["c"]]),
    (yard("abc", [("c", 1, "b"), ("b", 4, "c")]), [["b", "c"]]),
    (yard("abc", [("a", 1, "b"), ("b", 1, "c"), ("c", 1, "a")]), [["a", "b", "c"]]),
    (yard("abc", [("a", 1, "c"), ("c", 1, "b"), ("b", 1, "a")]), [["a", "c", "b"]]),
    (yard("abcd", [("a", 1, "b"), ("b", 0, "c"), ("c", 2, "d"), ("d", 3, "c")]), [["c", "d"]]),
    (yard("abcd", [("d", 1, "c"), ("c", 0, "b"), ("b", 2, "a"), ("a", 3, "b")]), [["a", "b"]]),
    (placed({"a": 4, "b": 0, "c": 2}, [("a", 4, "b"), ("b", 0, "c"), ("c", 3, "a")]), [["a", "b", "c"]]),
    # Rings through a card that is out are none.
    (placed({"a": 5}, [("a", 2, "a")]), []),
    (placed({"a": 5, "b": 5}, [("a", 2, "b"), ("b", 2, "a")]), []),
    (placed({"a": 5, "b": 5, "c": 0}, [("a", 2, "b"), ("b", 2, "a"), ("c", 0, "c")]), [["c"]]),
    (placed({"a": 0, "b": 5, "c": 0}, [("a", 2, "b"), ("a", 2, "c"), ("c", 2, "a")]), [["a", "c"]]),
)


class Rings(unittest.TestCase):
    def assert_rings(self, plan, stand, rings):
        self.assertIs(is_stand(plan, stand), True, stand)
        for ring in rings:
            self.assertIs(is_ring(plan, stand, ring), True, ring)
        told = ring_of(plan, stand)
        if rings:
            self.assertIs(type(told), list)
            self.assertIn(told, rings)
        else:
            self.assertIsNone(told)

    def test_stands_and_their_rings(self):
        for stand, rings in STANDS_AND_RINGS:
            self.assertEqual(rings_by_the_words(WIDE, stand), rings)
            self.assert_rings(WIDE, stand, rings)

    def test_sample_stands(self):
        self.assert_rings(SMALL, SMALL_STAND, [["bug"]])
        self.assert_rings(ORDINARY, ORDINARY_STAND, [["axe", "bee"]])
        self.assert_rings(WIDE, BUSY, [["a"], ["b", "c"]])

    def test_cards_that_are_out_where_there_are_fewer_or_more_lanes_than_kinds(self):
        kinds = (("k", (0, 1), (9, 9)), ("l", (0,), (9,)), ("m", (1,), (9,)), ("n", (0, 1), (9, 9)))
        for many in (1, 2, 4):
            plan = ((("a", 9), ("b", 9), ("c", 9)), kinds[:many])
            waits = (("a", 0, "a"), ("a", 1, "b"), ("b", 2, "a"), ("c", 3, "c"))
            cards = (("a", "k", 3, False), ("b", "k", 3, False), ("c", "k", 2, False))
            stand = ((9, 9, 9), cards, waits)
            self.assert_rings(plan, stand, [["c"]])
            self.assertIs(is_ring(plan, stand, ["a"]), False)
            self.assertIs(is_ring(plan, stand, ["a", "b"]), False)
            self.assert_rings(plan, ((9, 9, 9), cards, waits[:3]), [])

    def test_only_the_rings_are_rings(self):
        for stand, rings in STANDS_AND_RINGS:
            names = [card[0] for card in stand[1]]
            for many in range(4):
                for row in itertools.product(names, repeat=many):
                    self.assertIs(is_ring(WIDE, stand, list(row)), list(row) in rings, row)

    def test_a_ring_begun_elsewhere(self):
        stand = yard("abc", [("a", 1, "b"), ("b", 1, "c"), ("c", 1, "a")])
        self.assertIs(is_ring(WIDE, stand, ["a", "b", "c"]), True)
        for row in (["b", "c", "a"], ["c", "a", "b"], ["a", "c", "b"], ["c", "b", "a"], ["b", "a", "c"]):
            self.assertIs(is_ring(WIDE, stand, row), False)

    def test_a_name_twice(self):
        stand = yard("ab", [("a", 1, "b"), ("b", 1, "a"), ("a", 1, "a"), ("b", 1, "b")])
        for row in (["a"], ["b"], ["a", "b"]):
            self.assertIs(is_ring(WIDE, stand, row), True)
        for row in (["a", "a"], ["a", "a", "b"], ["a", "b", "b"], ["a", "b", "a", "b"], ["b", "b"]):
            self.assertIs(is_ring(WIDE, stand, row), False)

    def test_a_name_left_out_or_too_many(self):
        stand = yard("abcd", [("a", 1, "b"), ("b", 1, "c"), ("c", 1, "a")])
        for row in ([], ["a"], ["a", "b"], ["a", "c"], ["b", "c"], ["a", "b", "c", "d"], ["a", "b", "c", "x"], ["x"]):
            self.assertIs(is_ring(WIDE, stand, row), False)

    def test_a_card_that_is_out_is_in_no_ring(self):
        stand = placed({"a": 5, "b": 5}, [("a", 0, "b"), ("b", 0, "a"), ("a", 0, "a")])
        for row in (["a"], ["a", "b"]):
            self.assertIs(is_ring(WIDE, stand, row), False)

    def test_things_that_are_no_lists_of_names(self):
        stand = yard("ab", [("a", 1, "b"), ("b", 1, "a"), ("a", 1, "a")])
        for thing in ODD_THINGS + (
            ("a",), ("a", "b"), "a", "ab", ["A"], [["a"]], [["a", "b"]], [("a",), "b"], ["a", None], ["a", True],
            ["a", ["b"]], [["a"], ["b"]], [0, 1], [0], ["a", 1], [None, "a"], ["ab"], ["a", "b", []], [["a"], "a"],
            (["a", "b"],), stand, 0, 1, ["a"] * 200, [[[["a"]]]],
        ):
            self.assertIs(is_ring(WIDE, stand, thing), False, thing)

    def test_nothing_handed_in_is_changed(self):
        stand = yard("ab", [("a", 1, "b"), ("b", 1, "a")])
        for thing in (["a", "b"], ["b", "a"], [["a"], ["b"]], ["b", ["a"]]):
            before = copy.deepcopy(thing)
            is_ring(WIDE, stand, thing)
            self.assertEqual(thing, before)

    def test_a_told_ring_is_the_askers_own(self):
        stand = yard("ab", [("a", 1, "b"), ("b", 1, "a")])
        told = ring_of(WIDE, stand)
        told.append("x")
        told[0] = "y"
        self.assertEqual(ring_of(WIDE, stand), ["a", "b"])

    def test_a_ring_of_thirty(self):
        plan = STAND_PLANS[2]
        names = [first + second for first in "abcde" for second in "abcdef"]
        order = random.Random(1).sample(names, 30)
        waits = sorted((card, 6, other) for card, other in zip(order, order[1:] + order[:1]))
        stand = ((99,) * 6, tuple((name, "uuuuuuuu", 0, False) for name in names), tuple(waits))
        least = order.index("aa")
        self.assert_rings(plan, stand, [order[least:] + order[:least]])
        for wait in waits:
            shorter = tuple(each for each in waits if each != wait)
            self.assert_rings(plan, (stand[0], stand[1], shorter), [])

    def test_many_stands(self):
        chance = random.Random(11)
        found = {}
        for each in range(1500):
            places = {name: chance.choice((0, 0, 0, 1, 2, 5)) for name in "abcdef"[:chance.randrange(7)]}
            lanes = {name: places[name] - 1 for name in places}
            waits = []
            for card, other in itertools.product(places, places):
                lane = chance.randrange(5)
                if chance.randrange(4) == 0 and (lanes[card] < lane or lanes[other] == 4):
                    waits.append((card, lane, other))
            stand = placed(places, waits)
            if is_stand(WIDE, stand):
                rings = rings_by_the_words(WIDE, stand)
                self.assert_rings(WIDE, stand, rings)
                self.assert_no_others(stand, rings, chance)
                longest = max([len(ring) for ring in rings], default=0)
                found[longest] = found.get(longest, 0) + 1
        self.assertGreater(min(found[many] for many in range(5)), 10)

    def assert_no_others(self, stand, rings, chance):
        names = [card[0] for card in stand[1]]
        for ring in rings:
            self.assertIs(is_ring(WIDE, stand, ring[1:] + ring[:1]), len(ring) == 1)
        for each in range(10):
            row = chance.sample(names, chance.randrange(len(names) + 1))
            self.assertIs(is_ring(WIDE, stand, row), row in rings)

    def test_sample_stands_keep_what_is_told_of_them(self):
        self.assertEqual({card[0] for card in BUSY[1]}, set(BUSY_LANES))
        for plan, stand in PLANS_AND_STANDS:
            self.assert_rings(plan, stand, rings_by_the_words(plan, stand))


if __name__ == "__main__":
    unittest.main()
