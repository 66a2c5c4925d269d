"""[18] to [20]: sums over turns, stays, visits and means; and [3] of what the cards of a lane come to."""

import fractions
import random
import time
import unittest

from cardlanes.books import Book
from cardlanes.deeds import Add, Back, Block, Bound, Clear, Pull, Wait
from cardlanes.deedtexts import read_deed
from cardlanes.errors import LaneError, NoCard
from cardlanes.sums import cards_over, mean, stay, visits

from deed_model import any_deed
from refusals import Refusals
from stand_samples import STAND_PLANS, WIDE
from sum_model import Sums

LEAST, GREATEST, LAST_TURN = -(10 ** 9), 2 * 10 ** 9, 10 ** 9
MOVING = {"add": 4, "pull": 12, "back": 4, "block": 1, "clear": 1, "wait": 1, "let": 1, "bound": 1}


def book_of(*rows, plan=WIDE):
    """A book of rows (turn, text)."""
    book = Book(plan)
    for turn, text in rows:
        book.tell(turn, "ann", read_deed(text))
    return book


def any_book(chance, plan, turns):
    """Some book of at most sixty-four entries, told in any order."""
    book = Book(plan)
    for each in range(150):
        deed = any_deed(chance, plan, list("abcdef"), MOVING)
        try:
            book.tell(chance.choice(turns), chance.choice(("ann", "bob")), deed)
        except LaneError:
            continue
        if len(book.entries()) == 64:
            break
    return book


def shown(book):
    return [(turn, hand, deed.written()) for turn, hand, deed in book.entries()], book.stands()


# Two cards in la from turn 5 on; a leaves it at 8, b at 20; c comes and goes at turn 9; a comes back at 12.
ROWS = (
    (1, "add a all"), (2, "add b ends"), (3, "add c all"), (5, "pull a"), (5, "pull b"), (8, "pull a"), (9, "pull c"),
    (9, "pull c"), (12, "back a"), (20, "pull b"), (20, "pull b"),
)


class CardsOver(unittest.TestCase):
    def test_by_hand(self):
        book = book_of(*ROWS)
        for start, end, la, lb in (
            (0, 5, 0, 0), (0, 6, 2, 0), (5, 6, 2, 0), (5, 8, 6, 0), (5, 9, 7, 1), (8, 9, 1, 1), (9, 10, 1, 2), (11, 12, 1, 2),
            (12, 13, 2, 1), (0, 20, 6 + 4 + 16, 4 + 3 + 8), (19, 21, 3, 2), (20, 21, 1, 1), (20, 120, 100, 100),
            (-5, 5, 0, 0), (-5, 6, 2, 0),
        ):
            self.assertEqual(cards_over(book, 0, start, end), la, (start, end))
            self.assertEqual(cards_over(book, 1, start, end), lb, (start, end))
            self.assertEqual(cards_over(book, 2, start, end), 0)
            self.assertIs(type(cards_over(book, 0, start, end)), int)

    def test_a_card_that_comes_and_goes_at_one_turn(self):
        book = book_of((3, "add a all"), (4, "pull a"), (4, "pull a"), (4, "pull a"), (4, "back a"), (4, "back a"))
        self.assertEqual([cards_over(book, lane, 0, 100) for lane in range(4)], [96, 0, 0, 0])
        self.assertEqual([stay(book, "a", lane, 0, 100) for lane in range(4)], [96, 0, 0, 0])
        book = book_of((3, "add a la"), (4, "pull a"), (4, "pull a"))
        self.assertEqual([cards_over(book, lane, LEAST, GREATEST) for lane in range(4)], [0, 0, 0, 0])

    def test_no_turns_and_turned_about(self):
        book = book_of(*ROWS)
        for start, end in ((5, 5), (6, 5), (20, 0), (0, 0), (GREATEST, LEAST), (7, -7), (LAST_TURN, LAST_TURN), (-3, -3)):
            for lane in range(4):
                self.assertEqual(cards_over(book, lane, start, end), 0)
                self.assertEqual(stay(book, "a", lane, start, end), 0)

    def test_the_greatest_window(self):
        book = book_of(*ROWS)
        self.assertEqual(cards_over(book, 0, LEAST, GREATEST), 26 + GREATEST - 20)
        self.assertEqual(cards_over(book, 1, LEAST, GREATEST), 15 + GREATEST - 20)
        book = book_of((0, "add a all"), (0, "pull a"), (LAST_TURN, "pull a"))
        self.assertEqual(cards_over(book, 0, LEAST, GREATEST), LAST_TURN)
        self.assertEqual(cards_over(book, 1, LEAST, GREATEST), LAST_TURN)
        self.assertEqual(cards_over(book, 1, LAST_TURN, GREATEST), LAST_TURN)
        self.assertEqual(cards_over(book, 0, LAST_TURN - 1, LAST_TURN), 1)

    def test_a_book_without_entries(self):
        for plan in STAND_PLANS:
            for lane in range(len(plan[0])):
                self.assertEqual(cards_over(Book(plan), lane, LEAST, GREATEST), 0)

    def test_thousands_of_millions_of_turns_are_told_at_once(self):
        chance = random.Random(2)
        book = any_book(chance, WIDE, range(0, LAST_TURN, 9999))
        begun = time.monotonic()
        for lane in range(4):
            cards_over(book, lane, LEAST, GREATEST)
            mean(book, lane, LEAST, GREATEST)
            stay(book, book.stand()[1][0][0], lane, LEAST, GREATEST)
        self.assertLess(time.monotonic() - begun, 5)


class Stays(Refusals):
    def test_by_hand(self):
        book = book_of(*ROWS)
        for card, lane, start, end, many in (
            ("a", 0, 0, 20, 3 + 8), ("a", 1, 0, 20, 4), ("b", 0, 0, 30, 15), ("b", 3, 0, 30, 0), ("c", 0, 0, 30, 0),
            ("c", 1, 0, 30, 21), ("a", 0, 5, 6, 1), ("a", 0, 4, 5, 0), ("a", 0, 8, 9, 0), ("a", 0, 7, 9, 1),
            ("a", 0, 12, GREATEST, GREATEST - 12), ("a", 0, LEAST, 5, 0), ("b", 0, 19, 21, 1),
        ):
            self.assertEqual(stay(book, card, lane, start, end), many, (card, lane, start, end))
            self.assertIs(type(stay(book, card, lane, start, end)), int)

    def test_a_card_that_is_not_in_the_last_stand(self):
        book = book_of(*ROWS)
        for card in ("d", "all", "la", "out", "yard"):
            for lane, start, end in ((0, 0, 20), (3, 5, 5), (0, 9, 3)):
                self.assert_refused(NoCard, {"card": card}, stay, book, card, lane, start, end)
        self.assert_refused(NoCard, {"card": "a"}, stay, Book(WIDE), "a", 0, 0, 1)

    def test_a_card_that_comes_only_behind_the_turns_or_is_out(self):
        book = book_of((5, "add a la"), (6, "pull a"), (9, "pull a"))
        self.assertEqual([stay(book, "a", 2, 0, end) for end in (4, 5, 6, 7, 9, 10)], [0, 0, 0, 1, 3, 3])

    def test_a_card_of_a_struck_entry(self):
        book = book_of((5, "add a la"), (6, "add b la"))
        book.strike(0)
        self.assert_refused(NoCard, {"card": "a"}, stay, book, "a", 0, 0, 9)
        self.assert_refused(NoCard, {"card": "a"}, visits, book, "a")


class AnyBooks(unittest.TestCase):
    def windows(self, chance, book):
        """Windows about each entry, of one turn, of any turns, and the greatest one."""
        turns = [entry[0] for entry in book.entries()] or [0]
        near = sorted({turn + step for turn in turns for step in (-1, 0, 1)})
        found = [(turn, turn + 1) for turn in chance.sample(near, min(12, len(near)))]
        found += [(LEAST, GREATEST), (GREATEST, LEAST), (0, GREATEST), (LEAST, 0)]
        found += [tuple(chance.sample(near, 2)) for each in range(12)]
        return found

    def books(self):
        chance = random.Random(18)
        for plan in STAND_PLANS:
            for turns in ((4,), range(3), range(12), range(0, LAST_TURN + 1, 10 ** 7)):
                yield chance, any_book(chance, plan, turns)

    def test_cards_and_stays(self):
        for chance, book in self.books():
            before, sums = shown(book), Sums(book.plan(), book.entries())
            for start, end in self.windows(chance, book):
                for lane, (name, bound) in enumerate(book.plan()[0]):
                    cards = cards_over(book, lane, start, end)
                    self.assertEqual(cards, sums.cards_over(name, start, end))
                    stays = [stay(book, card[0], lane, start, end) for card in book.stand()[1]]
                    self.assertEqual(sum(stays), cards)
            self.assertEqual(shown(book), before)

    def test_each_stay(self):
        for chance, book in self.books():
            sums = Sums(book.plan(), book.entries())
            for start, end in chance.sample(self.windows(chance, book), 6):
                for lane, (name, bound) in enumerate(book.plan()[0]):
                    for card in book.stand()[1]:
                        expected = sums.stay(card[0], name, start, end)
                        self.assertEqual(stay(book, card[0], lane, start, end), expected)

    def test_turn_by_turn(self):
        chance = random.Random(4)
        for plan in STAND_PLANS:
            book = any_book(chance, plan, range(12))
            sums = Sums(plan, book.entries())
            for lane, (name, bound) in enumerate(plan[0]):
                for start, end in ((-3, 15), (0, 12), (3, 7), (5, 6)):
                    self.assertEqual(cards_over(book, lane, start, end), sums.cards_turn_by_turn(name, start, end))

    def test_windows_cut_at_a_turn_add_up(self):
        for chance, book in self.books():
            turns = [entry[0] for entry in book.entries()]
            for cut in {LEAST, GREATEST, 0, *turns, *(turn + 1 for turn in turns[::9])}:
                for lane in range(len(book.plan()[0])):
                    parts = cards_over(book, lane, LEAST, cut) + cards_over(book, lane, cut, GREATEST)
                    self.assertEqual(parts, cards_over(book, lane, LEAST, GREATEST))

    def test_visits(self):
        many = 0
        for chance, book in self.books():
            before, sums = shown(book), Sums(book.plan(), book.entries())
            names = [name for name, bound in book.plan()[0]]
            for card in book.stand()[1]:
                found = visits(book, card[0])
                many += len(found)
                self.assertEqual([(names[lane], came, left) for lane, came, left in found], sums.visits(card[0]))
                for lane in range(len(names)):
                    stays = [(GREATEST if left is None else left) - came for here, came, left in found if here == lane]
                    self.assertEqual(sum(stays), stay(book, card[0], lane, LEAST, GREATEST))
            self.assertEqual(shown(book), before)
        self.assertGreater(many, 100)

    def test_means(self):
        whole = 0
        for chance, book in self.books():
            for start, end in self.windows(chance, book):
                for lane in range(len(book.plan()[0])):
                    found = mean(book, lane, start, end)
                    if start >= end:
                        self.assertIsNone(found)
                        continue
                    expected = fractions.Fraction(cards_over(book, lane, start, end), end - start)
                    self.assertEqual(found, (expected.numerator, expected.denominator))
                    whole += found[1] > 1
        self.assertGreater(whole, 50)


class Visits(Refusals):
    def test_by_hand(self):
        book = book_of(*ROWS)
        self.assertEqual(visits(book, "a"), [(0, 5, 8), (1, 8, 12), (0, 12, None)])
        self.assertEqual(visits(book, "b"), [(0, 5, 20), (3, 20, 20)])
        self.assertEqual(visits(book, "c"), [(0, 9, 9), (1, 9, None)])
        for visit in visits(book, "a"):
            self.assertIs(type(visit), tuple)

    def test_not_the_yard_nor_out(self):
        book = book_of((0, "add a la"))
        self.assertEqual(visits(book, "a"), [])
        book.tell(1, "ann", Pull("a"))
        self.assertEqual(visits(book, "a"), [(2, 1, None)])
        book.tell(2, "ann", Back("a"))
        self.assertEqual(visits(book, "a"), [(2, 1, 2)])
        book.tell(3, "ann", Pull("a"))
        self.assertEqual(visits(book, "a"), [(2, 1, 2), (2, 3, None)])
        book.tell(LAST_TURN, "ann", Pull("a"))
        self.assertEqual(visits(book, "a"), [(2, 1, 2), (2, 3, LAST_TURN)])

    def test_several_times_pulled_and_put_back(self):
        rows = [(0, "add a all"), (1, "pull a")]
        expected = [(0, 1, 2)]
        for turn in range(2, 12, 2):
            rows += [(turn, "pull a"), (turn + 1, "back a")]
            expected += [(1, turn, turn + 1), (0, turn + 1, turn + 2)]
        book = book_of(*rows)
        self.assertEqual(visits(book, "a"), expected[:-1] + [(0, 11, None)])

    def test_all_at_one_turn(self):
        book = book_of((7, "add a mid"), (7, "pull a"), (7, "pull a"), (7, "back a"), (7, "back a"), (7, "pull a"))
        self.assertEqual(visits(book, "a"), [(1, 7, 7), (2, 7, 7), (1, 7, 7), (1, 7, None)])

    def test_other_deeds_do_not_end_a_visit(self):
        book = book_of((0, "add a all"), (1, "pull a"))
        for turn, deed in enumerate([
            Block("a"), Clear("a"), Bound("la", 1), Wait("a", "out", "a"), Add("b", "all"), Add("c", "mid"), Pull("c"),
        ]):
            book.tell(turn + 2, "ann", deed)
        self.assertEqual(visits(book, "a"), [(0, 1, None)])
        self.assertEqual(visits(book, "b"), [])

    def test_in_the_order_of_the_book_not_of_telling(self):
        book = book_of((0, "add a all"), (9, "pull a"), (5, "pull a"), (7, "pull a"))
        self.assertEqual(visits(book, "a"), [(0, 5, 7), (1, 7, 9), (2, 9, None)])

    def test_no_card(self):
        book = book_of(*ROWS)
        for card in ("d", "all", "la"):
            self.assert_refused(NoCard, {"card": card}, visits, book, card)
        self.assert_refused(NoCard, {"card": "a"}, visits, Book(WIDE), "a")

    def test_the_list_is_the_askers_own(self):
        book = book_of(*ROWS)
        told = visits(book, "a")
        told.clear()
        self.assertEqual(visits(book, "a"), [(0, 5, 8), (1, 8, 12), (0, 12, None)])
        kept = visits(book, "a")
        book.tell(15, "ann", Pull("a"))
        self.assertEqual(kept, [(0, 5, 8), (1, 8, 12), (0, 12, None)])


class Means(unittest.TestCase):
    def assert_mean(self, book, lane, start, end, expected):
        found = mean(book, lane, start, end)
        self.assertEqual(found, expected)
        if expected is not None:
            self.assertIs(type(found), tuple)
            self.assertEqual([type(each) for each in found], [int, int])

    def test_by_hand(self):
        book = book_of(*ROWS)
        for lane, start, end, expected in (
            (0, 5, 8, (2, 1)), (0, 8, 12, (1, 1)), (0, 0, 5, (0, 1)), (0, -1, 0, (0, 1)), (2, 0, 7, (0, 1)),
            (0, 4, 6, (1, 1)), (0, 4, 7, (4, 3)), (0, 3, 7, (1, 1)), (0, 2, 8, (1, 1)), (0, 0, 20, (13, 10)),
            (1, 0, 20, (3, 4)), (1, 7, 10, (1, 1)), (0, 3, 6, (2, 3)), (0, 2, 6, (1, 2)), (0, 5, 6, (2, 1)),
        ):
            self.assert_mean(book, lane, start, end, expected)

    def test_no_turns(self):
        book = book_of(*ROWS)
        for start, end in ((0, 0), (5, 5), (6, 5), (GREATEST, LEAST), (-1, -1), (1, 0)):
            self.assert_mean(book, 0, start, end, None)
            self.assert_mean(Book(WIDE), 3, start, end, None)

    def test_great_windows(self):
        book = book_of((0, "add a all"), (0, "pull a"), (LAST_TURN, "pull a"))
        self.assert_mean(book, 0, LEAST, GREATEST, (1, 3))
        self.assert_mean(book, 0, 0, LAST_TURN, (1, 1))
        self.assert_mean(book, 1, 0, GREATEST, (1, 2))
        self.assert_mean(book, 1, 0, LAST_TURN + 1, (1, LAST_TURN + 1))
        self.assert_mean(book, 1, 1, LAST_TURN + 1, (1, LAST_TURN))
        self.assert_mean(book, 2, LEAST, GREATEST, (0, 1))

    def test_a_book_without_entries(self):
        self.assert_mean(Book(WIDE), 0, LEAST, GREATEST, (0, 1))
        self.assert_mean(Book(WIDE), 0, 3, 4, (0, 1))


if __name__ == "__main__":
    unittest.main()
