"""[23] what shows that a stand can be emptied, or that it can't; and [2] of anything in its place."""

import copy
import random
import unittest

from cardlanes.emptying import drained, emptied, places_of
from cardlanes.papers import shows_ring, shows_row, shows_shut
from cardlanes.stands import is_stand

from emptying_model import all_out, all_stands, row_empties, shuts_by_the_words, steps
from emptying_samples import BARRED, RING, SHUT, STUCK, TIGHT, any_stand, any_stands, tight
from plan_samples import ODD_THINGS
from stand_samples import STAND_PLANS, WIDE, rings_by_the_words

THINGS = ODD_THINGS + (
    0, 1, 2, "a", "abc", "row", ("a",), ["a"], [["a"]], [("a",)], [(0,)], [[0]], [0], ((0,),), [()], [[]], [(), ()], [None, "a"],
    [(0, 0)], [(1, 0)], [(True, False)], [[1, 0]], ((1, 0),), [((1, 0),)], [10 ** 60 - 1], [(10 ** 60 - 1,) * 2],
    ["x"] * 200, [(0,)] * 200, [(1, 0, 0)] * 200, [[[[["a"]]]]], ((((("a",),),),),),
)


class Papers(unittest.TestCase):
    def assert_tells(self, shows, plan, stand, thing, expected):
        """Just True or just False, each time, and nothing handed in is changed."""
        kept = repr((plan, stand, thing)), copy.deepcopy(thing)
        for each in range(2):
            self.assertIs(shows(plan, stand, thing), expected, (stand, thing))
        self.assertEqual((repr((plan, stand, thing)), thing), kept)


class Rows(Papers):
    def test_by_hand(self):
        stand = tight(("a", "all", 0), ("b", "end", 0))
        self.assert_tells(shows_row, TIGHT, stand, list("aaabb"), True)
        self.assert_tells(shows_row, TIGHT, stand, list("bbaaa"), True)
        self.assert_tells(shows_row, TIGHT, stand, list("abbaa"), True)
        self.assert_tells(shows_row, TIGHT, stand, list("baaab"), False)
        self.assert_tells(shows_row, TIGHT, stand, list("aaab"), False)
        self.assert_tells(shows_row, TIGHT, stand, list("aaabbb"), False)
        self.assert_tells(shows_row, TIGHT, stand, list("aaabbc"), False)
        self.assert_tells(shows_row, TIGHT, stand, list("xaaabb"), False)
        self.assert_tells(shows_row, TIGHT, stand, [], False)

    def test_nothing_to_pull(self):
        for stand in (tight(), tight(("a", "all", 3), ("b", "end", 2))):
            self.assert_tells(shows_row, TIGHT, stand, [], True)
            self.assert_tells(shows_row, TIGHT, stand, ["a"], False)
            self.assert_tells(shows_row, TIGHT, stand, (), False)
            self.assert_tells(shows_row, TIGHT, stand, "", False)
            self.assert_tells(shows_row, TIGHT, stand, None, False)

    def test_waits_and_blocked_cards(self):
        self.assert_tells(shows_row, TIGHT, BARRED, list("bbbaaa"), True)
        self.assert_tells(shows_row, TIGHT, BARRED, list("bbabaa"), True)
        self.assert_tells(shows_row, TIGHT, BARRED, list("bbaaba"), False)
        self.assert_tells(shows_row, TIGHT, BARRED, list("aaabbb"), False)
        stand = tight(("a", "end", 0), ("b", "end", 0, True))
        self.assert_tells(shows_row, TIGHT, stand, list("aabb"), False)
        self.assert_tells(shows_row, TIGHT, stand, list("aa"), False)

    def test_bent_at_one_thing(self):
        right = wrong = 0
        for plan, stand in any_stands(6, 31, most_cards=4, waits=3):
            row = drained(plan, stand)[0]
            self.assert_tells(shows_row, plan, stand, row, row_empties(plan, stand, row))
            for bent in bent_lists(row, [*"abcdefgh", "x", "", True, 0, None, ["a"], ("a",)]):
                expected = row_empties(plan, stand, bent)
                self.assertIs(shows_row(plan, stand, bent), expected)
                right, wrong = right + expected, wrong + (not expected)
            for thing in (tuple(row), "".join(row), " ".join(row), [row], row + [row], [tuple(row)]):
                self.assert_tells(shows_row, plan, stand, thing, row_empties(plan, stand, thing))
        self.assertGreater(right, 50)
        self.assertGreater(wrong, 1000)

    def test_a_row_of_as_many_pulls_as_there_may_be(self):
        plan = (WIDE[0], (("all", (0, 1, 2, 3), (99, 99, 99, 99)),))
        cards = tuple((first + second, "all", 0, False) for first in "abcde" for second in "uvwxyz")
        stand = ((99,) * 4, cards, ())
        row = drained(plan, stand)[0]
        self.assertEqual(len(row), 150)
        self.assert_tells(shows_row, plan, stand, row, True)
        self.assert_tells(shows_row, plan, stand, row[:-1], False)
        turned = [name for each in range(5) for name, kind, place, blocked in cards]
        self.assert_tells(shows_row, plan, stand, turned, True)

    def test_anything(self):
        for stand in (BARRED, STUCK, SHUT, RING, tight(), tight(("a", "ka", 2)), tight(("a", "ka", 1))):
            for thing in THINGS:
                self.assert_tells(shows_row, TIGHT, stand, thing, row_empties(TIGHT, stand, thing))


def bent_lists(told, others):
    """The list with a thing left out, twice, put for another or put in, two exchanged, turned about, and others."""
    for at in range(len(told)):
        yield told[:at] + told[at + 1:]
        yield told[:at + 1] + told[at:]
        yield told[:at] + told[at:at + 2][::-1] + told[at + 2:]
        yield told[:at]
        for other in others:
            yield told[:at] + [other] + told[at + 1:]
            yield told[:at] + [other] + told[at:]
    for other in others:
        yield told + [other]
    yield told[::-1]
    yield told + told
    yield []


class Rings(Papers):
    def test_by_hand(self):
        self.assert_tells(shows_ring, TIGHT, RING, ["a", "b"], True)
        for thing in (["b", "a"], ["a"], ["b"], ["a", "b", "a"], ["a", "b", "c"], [], ("a", "b"), "ab", [["a", "b"]], ["a", "a"]):
            self.assert_tells(shows_ring, TIGHT, RING, thing, False)
        for stand in (SHUT, STUCK, BARRED, tight(), tight(("a", "all", 0), ("b", "all", 0))):
            self.assert_tells(shows_ring, TIGHT, stand, ["a", "b"], False)
            self.assert_tells(shows_ring, TIGHT, stand, [], False)

    def test_of_one_card(self):
        stand = tight(("a", "all", 0), ("b", "all", 3), waits=[("a", 1, "a"), ("b", 1, "b")])
        self.assert_tells(shows_ring, TIGHT, stand, ["a"], True)
        self.assert_tells(shows_ring, TIGHT, stand, ["b"], False)
        self.assert_tells(shows_ring, TIGHT, stand, ["a", "b"], False)

    def test_any_stands(self):
        right = wrong = 0
        for plan, stand in any_stands(25, 33, waits=9, rings=True):
            rings = rings_by_the_words(plan, stand)
            for ring in rings + [["a", "b"], ["c"]]:
                for thing in (ring, ring[::-1], ring[1:] + ring[:1], ring + ring, ring[1:], ring + ["x"], tuple(ring), [ring]):
                    expected = type(thing) is list and thing in rings
                    self.assert_tells(shows_ring, plan, stand, thing, expected)
                    right, wrong = right + expected, wrong + (not expected)
        self.assertGreater(right, 50)
        self.assertGreater(wrong, 300)

    def test_anything(self):
        for stand in (RING, tight(("a", "all", 0), waits=[("a", 2, "a")])):
            for thing in THINGS:
                expected = type(thing) is list and thing in rings_by_the_words(TIGHT, stand)
                self.assert_tells(shows_ring, TIGHT, stand, thing, expected)


class Shut(Papers):
    def test_by_hand(self):
        self.assert_tells(shows_shut, TIGHT, STUCK, [(1, 0)], True)
        self.assert_tells(shows_shut, TIGHT, STUCK, [(1, 0), (1, 0)], True)
        places = [(1, 0, 0), (1, 0, 1), (1, 0, 2)]
        self.assert_tells(shows_shut, TIGHT, SHUT, places, True)
        self.assert_tells(shows_shut, TIGHT, SHUT, places[::-1], True)
        self.assert_tells(shows_shut, TIGHT, SHUT, places * 3, True)
        for at in range(3):
            self.assert_tells(shows_shut, TIGHT, SHUT, places[:at] + places[at + 1:], False)

    def test_it_must_have_the_places_of_the_stand(self):
        further = tight(("a", "all", 1), ("b", "all", 0), ("c", "end", 1), waits=[("a", 1, "b")])
        self.assert_tells(shows_shut, TIGHT, further, [(1, 0, 1), (1, 0, 2)], True)
        self.assert_tells(shows_shut, TIGHT, further, [(1, 0, 0), (1, 0, 1), (1, 0, 2)], True)
        self.assert_tells(shows_shut, TIGHT, further, [(1, 0, 2)], False)
        self.assert_tells(shows_shut, TIGHT, further, [], False)

    def test_more_than_there_need_be(self):
        # b at place 2 is in lb and can come out, from where a can go on to the end: such a list is not shut.
        self.assert_tells(shows_shut, TIGHT, STUCK, [(1, 0), (0, 0)], False)
        wide = ((4, 2, 3, 5), (("a", "la", 0, False), ("b", "la", 0, False)), (("a", 2, "b"), ("b", 4, "a")))
        stands = all_stands(WIDE, wide)
        self.assert_tells(shows_shut, WIDE, wide, sorted(stands), True)
        # a at place 0 and b out is a kept stand too, but leads to the empty one.
        self.assert_tells(shows_shut, WIDE, wide, sorted([*stands, (0, 2)]), False)

    def test_none_may_be_empty(self):
        empty = tight(("a", "all", 3), ("b", "end", 2))
        self.assert_tells(shows_shut, TIGHT, empty, [(3, 2)], False)
        self.assert_tells(shows_shut, TIGHT, tight(), [()], False)
        self.assert_tells(shows_shut, TIGHT, tight(), [], False)
        stand = tight(("a", "all", 2))
        self.assert_tells(shows_shut, TIGHT, stand, [(2,), (3,)], False)
        self.assert_tells(shows_shut, TIGHT, stand, [(2,)], False)
        # The empty one is led to by none of the others, and still it is among them.
        self.assert_tells(shows_shut, TIGHT, STUCK, [(1, 0), (3, 3)], False)

    def test_one_that_is_no_kept_stands(self):
        for places in ((1, 1), (2, 0), (2, 1), (3, 0), (3, 2)):
            self.assert_tells(shows_shut, TIGHT, STUCK, [(1, 0), places], False)
            self.assert_tells(shows_shut, TIGHT, STUCK, [places, (1, 0)], False)
        # Two of one kind where there may be but one, in a lane that has room for two.
        stand = tight(("a", "ka", 1), ("b", "ka", 0), waits=[("a", 2, "b")], bounds=(2, 1))
        self.assert_tells(shows_shut, TIGHT, stand, [(1, 0)], True)
        self.assert_tells(shows_shut, TIGHT, stand, [(1, 0), (1, 1)], False)

    def test_a_blocked_card(self):
        stand = tight(("a", "end", 1, True), ("b", "end", 0))
        self.assert_tells(shows_shut, TIGHT, stand, [(1, 0)], True)
        # A card that is out isn't blocked, so this is no stand.
        self.assert_tells(shows_shut, TIGHT, stand, [(1, 0), (2, 0)], False)
        self.assert_tells(shows_shut, TIGHT, stand, [(1, 0), (2, 2)], False)
        # In the yard it may be blocked as well; but then b can go on.
        self.assert_tells(shows_shut, TIGHT, stand, [(1, 0), (0, 0)], False)
        self.assert_tells(shows_shut, TIGHT, stand, [(1, 0), (0, 0), (0, 1), (0, 2)], True)
        self.assert_tells(shows_shut, TIGHT, stand, [(1, 0), (0, 0), (0, 1), (0, 2), (1, 2)], True)

    def test_truths_and_numbers_beyond(self):
        for places in (
            (True, 0), (1, False), (True, False), (1, -1), (-1, 0), (1, 4), (4, 0), (1, 10 ** 60 - 1), (1, None), (1, "0"),
            (1, (0,)), (1,), (1, 0, 0), (), [1, 0], [], "10", None, 1, True, ((1, 0),), ("a", "b"), (1, 0, None), [(1, 0)],
        ):
            self.assert_tells(shows_shut, TIGHT, STUCK, [places], False)
            self.assert_tells(shows_shut, TIGHT, STUCK, [(1, 0), places], False)
            self.assert_tells(shows_shut, TIGHT, STUCK, [places, (1, 0)], False)

    def test_the_list_itself(self):
        for thing in (((1, 0),), (1, 0), [1, 0], [[1, 0]], [[(1, 0)]], ([(1, 0)],), "[(1, 0)]", None, True, 1, [], ()):
            self.assert_tells(shows_shut, TIGHT, STUCK, thing, False)

    def test_places_of_each_kind_have_their_own_bounds(self):
        stand = tight(("a", "all", 1), ("b", "all", 0), ("c", "ka", 0), ("d", "end", 2), waits=[("a", 1, "b")])
        self.assert_tells(shows_shut, TIGHT, stand, [(1, 0, 0, 2)], True)
        for places in ((1, 0, 0, 3), (1, 0, 3, 2), (4, 0, 0, 2)):
            self.assert_tells(shows_shut, TIGHT, stand, [(1, 0, 0, 2), places], False)
        # d would not be there, and so it may be in its yard and its lane, too.
        self.assert_tells(shows_shut, TIGHT, stand, [(1, 0, 0, 2), (1, 0, 0, 0), (1, 0, 0, 1)], True)
        self.assert_tells(shows_shut, TIGHT, stand, [(1, 0, 0, 2), (1, 0, 0, 0)], False)

    def test_bent_at_one_thing(self):
        chance = random.Random(35)
        shut = right = wrong = 0
        for plan in (TIGHT, *STAND_PLANS):
            for each in range(60):
                stand = any_stand(chance, plan, 4, 5, 0.1, chance.random() < 0.2)
                stands = all_stands(plan, stand, 9)
                if stands is None or any(all_out(plan, each) for each in stands.values()):
                    continue
                shut += 1
                told = sorted(stands)
                self.assert_tells(shows_shut, plan, stand, told, True)
                for thing in self.bent(chance, plan, stand, told):
                    expected = shuts_by_the_words(plan, stand, thing)
                    self.assertIs(shows_shut(plan, stand, thing), expected, (stand, thing))
                    right, wrong = right + expected, wrong + (not expected)
        self.assertGreater(shut, 40)
        self.assertGreater(right, 100)
        self.assertGreater(wrong, 1000)

    def bent(self, chance, plan, stand, told):
        others = [(), None, places_of(stand)[:-1], list(places_of(stand)), (*places_of(stand), 0)]
        for places in chance.sample(told, min(3, len(told))):
            for at, place in enumerate(places):
                for new in (place + 1, place - 1, bool(place), str(place), None):
                    others.append(places[:at] + (new,) + places[at + 1:])
        yield from bent_lists(told, chance.sample(others, min(8, len(others))))
        yield tuple(told)
        yield [list(places) for places in told]
        yield told + [tuple(told)]

    def test_wherever_it_is_shown_no_row_does_it(self):
        chance = random.Random(36)
        shown = 0
        for each in range(400):
            stand = any_stand(chance, TIGHT, 3, 4, 0.1)
            places = [tuple(chance.randrange(4) for card in stand[1]) for some in range(3)] + [places_of(stand)]
            found = all_stands(TIGHT, stand)
            for thing in (places, sorted(found), sorted(found)[:-1], sorted(found)[1:]):
                if shows_shut(TIGHT, stand, thing):
                    shown += 1
                    self.assertFalse(any(all_out(TIGHT, each) for each in found.values()))
        self.assertGreater(shown, 10)

    def test_anything(self):
        for stand in (STUCK, SHUT, BARRED, RING, tight(), tight(("a", "ka", 1)), tight(("a", "ka", 0, True))):
            for thing in THINGS:
                self.assert_tells(shows_shut, TIGHT, stand, thing, shuts_by_the_words(TIGHT, stand, thing))


class WhatWasTold(Papers):
    def test_each_paper_shows_only_its_own(self):
        row = emptied(TIGHT, BARRED, 60)
        ring = emptied(TIGHT, RING, 60)
        shut = emptied(TIGHT, SHUT, 60)
        for stand, told, shows in ((BARRED, row, shows_row), (RING, ring, shows_ring), (SHUT, shut, shows_shut)):
            self.assertIs(is_stand(TIGHT, stand), True)
            for each in (shows_row, shows_ring, shows_shut):
                self.assert_tells(each, TIGHT, stand, told[1], each is shows)
            self.assert_tells(shows, TIGHT, stand, told, False)

    def test_two_hundred_places(self):
        plan = ((("la", 99),), (("ka", (0,), (99,)),))
        names = [(name, "ka", 0, False) for name in "abcdefg"]
        # z never moves, so that none of these is empty; each other card is in the yard, in the lane or out.
        stand = ((99,), (*names[:4], ("z", "ka", 0, False)), (("z", 0, "z"),))
        found = sorted(all_stands(plan, stand))
        self.assertEqual(len(found), 81)
        self.assert_tells(shows_shut, plan, stand, found, True)
        self.assert_tells(shows_shut, plan, stand, found + found[::-1] + found[:38], True)
        self.assert_tells(shows_shut, plan, stand, found[:80], False)
        self.assertEqual(len(list(steps(plan, stand))), 4)


if __name__ == "__main__":
    unittest.main()
