"""[3], as far as it speaks of deeds done one behind the other; [12] over long rows; and [2] of what they are handed."""

import copy
import random
import unittest

from cardlanes.deeds import Add, Back, Block, Bound, Clear, Pull, Wait
from cardlanes.errors import Blocked, Full, KindFull, LaneError, Out, Waits
from cardlanes.stands import cards_in, first_stand, is_stand, lane_of, many_of

from deed_model import Board, any_deed
from stand_samples import STAND_PLANS, WIDE, card_names, is_stand_by_the_words, plan_of_lanes

EVEN = {"add": 2, "pull": 6, "back": 2, "block": 1, "clear": 2, "wait": 2, "let": 1, "bound": 1}
CROWDED = {"add": 6, "pull": 8, "back": 1, "block": 0, "clear": 0, "wait": 0, "let": 0, "bound": 1}
WAITING = {"add": 2, "pull": 1, "back": 0, "block": 0, "clear": 0, "wait": 12, "let": 1, "bound": 0}


def done(plan, deeds):
    """The stand behind a row of deeds."""
    stand = first_stand(plan)
    for deed in deeds:
        stand = deed.done(plan, stand)
    return stand


class LongRows(unittest.TestCase):
    def go_through(self, plan, seed, names, weights, many):
        """Many deeds, each compared with what the board tells; how often each refusal came, and none."""
        chance = random.Random(seed)
        board = Board(plan)
        stand = first_stand(plan)
        came = {}
        for each in range(many):
            deed = any_deed(chance, plan, names, weights)
            before = (stand, copy.deepcopy(stand), deed.written())
            told = board.do(deed)
            try:
                stand = deed.done(plan, stand)
                refusal = None
            except LaneError as error:
                refusal = (type(error).__name__, vars(error))
            self.assertEqual(refusal, told, deed.written())
            self.assertEqual(stand, board.stand(), deed.written())
            self.assertEqual((before[0], deed.written()), before[1:])
            self.assert_kept(plan, stand)
            word = told[0] if told else type(deed).__name__
            came[word] = came.get(word, 0) + 1
        return came

    def assert_kept(self, plan, stand):
        self.assertIs(is_stand(plan, stand), True)
        self.assertTrue(is_stand_by_the_words(plan, stand))

    def test_rows_of_all_kinds(self):
        came = {}
        for plan in STAND_PLANS:
            for seed in range(6):
                for word, many in self.go_through(plan, seed, list("abcdefgh"), EVEN, 250).items():
                    came[word] = came.get(word, 0) + many
        for word in (
            "Add", "Pull", "Back", "Block", "Clear", "Wait", "Let", "Bound", "NoCard", "NoKind", "NoLane", "NoWait",
            "Twice", "Out", "Blocked", "Free", "InYard", "Past", "Waits", "Full", "KindFull", "Low",
        ):
            self.assertGreater(came.get(word, 0), 5, word)

    def test_crowded_rows(self):
        for plan in STAND_PLANS:
            came = self.go_through(plan, 7, card_names(50), CROWDED, 400)
            self.assertGreater(came.get("TooMany", 0), 1)

    def test_rows_of_many_waits(self):
        for plan in (WIDE, plan_of_lanes(6)):
            came = self.go_through(plan, 8, list("abcdef"), WAITING, 500)
            self.assertGreater(came.get("TooMany", 0), 1)


class ThePromise(unittest.TestCase):
    def test_each_card_comes_through_all_lanes_of_its_way(self):
        for plan in STAND_PLANS:
            for kind, way, bounds in plan[1]:
                stand = Add("a", kind).done(plan, first_stand(plan))
                lanes = [lane_of(plan, stand, "a")]
                while lanes[-1] != len(plan[0]):
                    stand = Pull("a").done(plan, stand)
                    lanes.append(lane_of(plan, stand, "a"))
                self.assertEqual(lanes, [-1, *way, len(plan[0])])

    def test_each_refusal_of_a_pull_tells_the_bound_or_the_card_by_which_it_is_due(self):
        chance = random.Random(3)
        came = {}
        for plan in STAND_PLANS:
            stand = first_stand(plan)
            for each in range(600):
                deed = any_deed(chance, plan, list("abcdefgh"), EVEN)
                try:
                    stand = deed.done(plan, stand)
                except (Full, KindFull, Waits, Blocked, Out) as error:
                    if isinstance(deed, Pull):
                        self.assert_due(plan, stand, error)
                        came[type(error)] = came.get(type(error), 0) + 1
                except LaneError:
                    pass
        for error in (Full, KindFull, Waits, Blocked, Out):
            self.assertGreater(came.get(error, 0), 5, error)

    def assert_due(self, plan, stand, error):
        numbers = {name: number for number, (name, bound) in enumerate(plan[0])}
        if isinstance(error, Full):
            number = numbers[error.lane]
            self.assertEqual(error.bound, stand[0][number])
            self.assertEqual(len(cards_in(plan, stand, number)), error.bound)
        elif isinstance(error, KindFull):
            number = numbers[error.lane]
            kinds = {name: dict(zip(way, bounds)) for name, way, bounds in plan[1]}
            self.assertEqual(error.bound, kinds[error.kind][number])
            self.assertEqual(many_of(plan, stand, number, error.kind), error.bound)
        elif isinstance(error, Waits):
            self.assertLess(lane_of(plan, stand, error.other), len(plan[0]))
            self.assertIn((error.card, error.other), [(wait[0], wait[2]) for wait in stand[2]])

    def test_a_wait_keeps_a_card_from_its_lane_till_the_other_is_out(self):
        stand = done(WIDE, [Add("a", "all"), Add("b", "la"), Wait("a", "lc", "b"), Pull("a"), Pull("a")])
        with self.assertRaises(Waits):
            Pull("a").done(WIDE, stand)
        stand = Pull("b").done(WIDE, stand)
        with self.assertRaises(Waits):
            Pull("a").done(WIDE, stand)
        stand = Pull("a").done(WIDE, Pull("b").done(WIDE, stand))
        self.assertEqual(lane_of(WIDE, stand, "a"), 2)

    def test_a_bound_is_the_lanes_from_then_on(self):
        deeds = [Add("a", "all"), Add("b", "all"), Add("c", "all"), Bound("la", 2), Pull("a"), Pull("b")]
        stand = done(WIDE, deeds)
        with self.assertRaises(Full) as caught:
            Pull("c").done(WIDE, stand)
        self.assertEqual((caught.exception.lane, caught.exception.bound), ("la", 2))
        stand = Pull("c").done(WIDE, Bound("la", 3).done(WIDE, stand))
        self.assertEqual(cards_in(WIDE, stand, 0), ["a", "b", "c"])

    def test_the_same_deed_in_two_stands(self):
        pull = Pull("a")
        here = done(WIDE, [Add("a", "all")])
        there = done(WIDE, [Add("a", "mid"), Add("b", "la"), Block("b")])
        self.assertEqual(pull.done(WIDE, here), ((4, 2, 3, 5), (("a", "all", 1, False),), ()))
        self.assertEqual(
            pull.done(WIDE, there), ((4, 2, 3, 5), (("a", "mid", 1, False), ("b", "la", 0, True)), ())
        )
        self.assertEqual(pull.done(WIDE, here), ((4, 2, 3, 5), (("a", "all", 1, False),), ()))

    def test_one_row_of_deeds_by_hand(self):
        deeds = [
            Add("b", "ends"), Add("a", "all"), Pull("a"), Wait("b", "ld", "a"), Pull("b"), Bound("ld", 1), Pull("a"),
            Back("a"), Block("b"), Wait("a", "out", "a"), Clear("b"), Block("a"),
        ]
        self.assertEqual(done(WIDE, deeds), (
            (4, 2, 3, 1),
            (("a", "all", 1, True), ("b", "ends", 1, False)),
            (("a", 4, "a"), ("b", 3, "a")),
        ))


if __name__ == "__main__":
    unittest.main()
