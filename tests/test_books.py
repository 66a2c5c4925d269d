"""[14] to [17]: books, their entries and stands; and [2] of what they are handed and tell."""

import inspect
import itertools
import unittest

from cardlanes.books import Book
from cardlanes.deeds import Add, Back, Block, Bound, Clear, Let, Pull, Wait
from cardlanes.errors import (
    Blocked, Free, Full, InYard, KindFull, Low, NoCard, NoEntry, NoKind, NoLane, NoWait, Out, TooMany, Twice, Waits,
)
from cardlanes.replay import replayed
from cardlanes.stands import first_stand

from plan_samples import SMALL
from refusals import Refusals
from stand_samples import STAND_PLANS, WIDE

LAST_TURN = 10 ** 9
GREAT = (10 ** 60 - 1, 10 ** 9, 10 ** 9 + 1, 2 ** 64)


def book_of(*entries, plan=WIDE):
    """A book to which these entries were told."""
    book = Book(plan)
    for entry in entries:
        book.tell(*entry)
    return book


def shown(book):
    """All that a book tells of itself, deeds by their texts."""
    entries = [(turn, hand, deed.written()) for turn, hand, deed in book.entries()]
    return entries, book.stands(), book.stand(), book.plan()


class Books(Refusals):
    def assert_not_told(self, book, entry, error, fields):
        """The entry is refused with its own refusal, and nothing is otherwise then."""
        before = shown(book)
        for each in range(2):
            self.assert_refused(error, fields, book.tell, *entry)
            self.assertEqual(shown(book), before)

    def assert_clashes(self, book, entry, at, error, fields):
        before = shown(book)
        for each in range(2):
            self.assert_clash(at, error, fields, book.tell, *entry)
            self.assertEqual(shown(book), before)

    def assert_struck(self, book, at):
        """The entry is struck, and the book is as if it had never been told."""
        entries = book.entries()
        struck = book.strike(at)
        self.assertIs(type(struck), tuple)
        self.assertEqual(struck, entries[at])
        self.assertIs(struck[2], entries[at][2])
        left = entries[:at] + entries[at + 1:]
        self.assertEqual(book.entries(), left)
        self.assertEqual(book.stands(), replayed(book.plan(), [deed for turn, hand, deed in left]))

    def assert_not_struck(self, book, at, error, fields):
        before = shown(book)
        for each in range(2):
            self.assert_refused(error, fields, book.strike, at)
            self.assertEqual(shown(book), before)

    def assert_strike_clashes(self, book, number, at, error, fields):
        before = shown(book)
        for each in range(2):
            self.assert_clash(at, error, fields, book.strike, number)
            self.assertEqual(shown(book), before)


class TheClass(unittest.TestCase):
    def test_each_method_is_its_own(self):
        for name, parameters in (
            ("__init__", ["self", "plan"]), ("tell", ["self", "turn", "hand", "deed"]), ("strike", ["self", "at"]),
            ("entries", ["self"]), ("stands", ["self"]), ("stand", ["self"]), ("stand_at", ["self", "turn"]),
            ("plan", ["self"]),
        ):
            self.assertIn(name, vars(Book))
            self.assertEqual(list(inspect.signature(vars(Book)[name]).parameters), parameters)

    def test_a_new_book(self):
        for plan in STAND_PLANS:
            book = Book(plan)
            self.assertEqual(book.entries(), [])
            self.assertEqual(book.stands(), [first_stand(plan)])
            self.assertEqual(book.stand(), first_stand(plan))
            self.assertEqual(book.plan(), plan)
            for turn in (-LAST_TURN, -1, 0, 1, LAST_TURN, *GREAT):
                self.assertEqual(book.stand_at(turn), first_stand(plan))

    def test_told_by_the_arguments_names(self):
        book = Book(plan=SMALL)
        deed = Add("a", "bug")
        self.assertEqual(book.tell(turn=1, hand="ann", deed=deed), 0)
        self.assertEqual(book.stand_at(turn=1), book.stand())
        self.assertEqual(book.strike(at=0), (1, "ann", deed))

    def test_two_books_beside_each_other(self):
        one, other = Book(WIDE), Book(WIDE)
        one.tell(3, "ann", Add("a", "all"))
        self.assertEqual(other.entries(), [])
        self.assertEqual(other.stands(), [first_stand(WIDE)])
        other.tell(2, "bob", Add("b", "mid"))
        self.assertEqual([deed.written() for turn, hand, deed in one.entries()], ["add a all"])
        one.strike(0)
        self.assertEqual(len(other.entries()), 1)


class Told(Books):
    def test_in_order(self):
        book = Book(WIDE)
        deeds = [Add("a", "all"), Add("b", "mid"), Pull("a"), Wait("b", "lb", "a"), Bound("la", 1)]
        for at, deed in enumerate(deeds):
            number = book.tell(at * 7, "ann", deed)
            self.assertIs(type(number), int)
            self.assertEqual(number, at)
            self.assertEqual(book.entries(), [(each * 7, "ann", told) for each, told in enumerate(deeds[:at + 1])])
            self.assertEqual(book.stands(), replayed(WIDE, deeds[:at + 1]))
            self.assertEqual(book.stand(), book.stands()[-1])
        self.assertEqual(book.stand(), (
            (1, 2, 3, 5), (("a", "all", 1, False), ("b", "mid", 0, False)), (("b", 1, "a"),)
        ))

    def test_late(self):
        book = book_of((10, "ann", Add("a", "all")), (20, "ann", Pull("a")))
        self.assertEqual(book.tell(0, "bob", Add("b", "mid")), 0)
        self.assertEqual(book.tell(15, "bob", Pull("b")), 2)
        self.assertEqual(book.tell(20, "bob", Block("a")), 4)
        self.assertEqual(book.tell(19, "zed", Block("b")), 3)
        self.assertEqual(shown(book)[0], [
            (0, "bob", "add b mid"), (10, "ann", "add a all"), (15, "bob", "pull b"), (19, "zed", "block b"),
            (20, "ann", "pull a"), (20, "bob", "block a"),
        ])
        bounds = (4, 2, 3, 5)
        self.assertEqual(book.stands(), [
            (bounds, (), ()),
            (bounds, (("b", "mid", 0, False),), ()),
            (bounds, (("a", "all", 0, False), ("b", "mid", 0, False)), ()),
            (bounds, (("a", "all", 0, False), ("b", "mid", 1, False)), ()),
            (bounds, (("a", "all", 0, False), ("b", "mid", 1, True)), ()),
            (bounds, (("a", "all", 1, False), ("b", "mid", 1, True)), ()),
            (bounds, (("a", "all", 1, True), ("b", "mid", 1, True)), ()),
        ])

    def test_at_one_turn_by_unlike_hands(self):
        for hands in itertools.permutations(("a", "ab", "b", "z")):
            book = Book(WIDE)
            for at, hand in enumerate(hands):
                number = book.tell(5, hand, Add(hand, "all"))
                self.assertEqual(number, sorted(hands[:at + 1]).index(hand))
            self.assertEqual([entry[1] for entry in book.entries()], ["a", "ab", "b", "z"])

    def test_at_one_turn_by_one_hand(self):
        book = book_of((4, "ann", Add("x", "la")), (6, "ann", Add("y", "la")), (5, "bob", Add("z", "la")))
        for at, card in enumerate("dbca"):
            self.assertEqual(book.tell(5, "ann", Add(card, "all")), at + 1)
        cards = [deed.card for turn, hand, deed in book.entries()]
        self.assertEqual(cards, ["x", "d", "b", "c", "a", "z", "y"])
        self.assertEqual(book.tell(5, "bob", Add("e", "all")), 6)
        self.assertEqual(book.tell(4, "ann", Add("f", "all")), 1)

    def test_the_turn_goes_ahead_of_the_hand(self):
        book = book_of((2, "a", Add("a", "all")), (1, "z", Add("b", "all")), (10, "a", Add("c", "all")))
        self.assertEqual([(turn, hand) for turn, hand, deed in book.entries()], [(1, "z"), (2, "a"), (10, "a")])

    def test_the_first_and_the_last_turn(self):
        book = Book(WIDE)
        self.assertEqual(book.tell(LAST_TURN, "ann", Add("a", "all")), 0)
        self.assertEqual(book.tell(0, "ann", Add("b", "all")), 0)
        self.assertEqual(book.tell(LAST_TURN, "bob", Pull("a")), 2)
        self.assertEqual(book.tell(LAST_TURN - 1, "bob", Pull("b")), 1)
        self.assertEqual([entry[0] for entry in book.entries()], [0, LAST_TURN - 1, LAST_TURN, LAST_TURN])

    def test_the_deeds_are_those_that_were_told(self):
        deeds = [Add("a", "all"), Pull("a"), Pull("a")]
        book = book_of((3, "ann", deeds[0]), (9, "ann", deeds[2]), (5, "ann", deeds[1]))
        for entry, deed in zip(book.entries(), deeds):
            self.assertIs(type(entry), tuple)
            self.assertIs(entry[2], deed)

    def test_one_deed_several_times(self):
        pull = Pull("a")
        book = book_of((0, "ann", Add("a", "all")), (3, "ann", pull), (1, "ann", pull), (2, "ann", pull))
        self.assertEqual([stand[1][0][2] for stand in book.stands()[1:]], [0, 1, 2, 3])
        self.assertEqual(book.strike(2), (2, "ann", pull))
        self.assertEqual([entry[0] for entry in book.entries()], [0, 1, 3])


class Refused(Books):
    def test_by_its_own_refusal(self):
        book = book_of((5, "ann", Add("a", "all")), (6, "ann", Pull("a")), (7, "ann", Block("a")))
        for entry, error, fields in (
            ((9, "ann", Add("b", "x")), NoKind, {"kind": "x"}),
            ((9, "ann", Add("a", "all")), Twice, {"card": "a"}),
            ((9, "ann", Pull("b")), NoCard, {"card": "b"}),
            ((9, "ann", Pull("a")), Blocked, {"card": "a"}),
            ((9, "ann", Wait("a", "x", "a")), NoLane, {"lane": "x"}),
            ((9, "ann", Let("a", "a")), NoWait, {"card": "a"}),
        ):
            self.assert_not_told(book, entry, error, fields)

    def test_late_in_the_stand_that_is_there(self):
        book = book_of((5, "ann", Add("a", "all")), (6, "ann", Pull("a")), (7, "ann", Block("a")))
        for entry, error, fields in (
            ((0, "ann", Pull("a")), NoCard, {"card": "a"}),
            ((4, "ann", Block("a")), NoCard, {"card": "a"}),
            ((5, "aa", Back("a")), NoCard, {"card": "a"}),
            ((5, "ann", Back("a")), InYard, {"card": "a"}),
            ((5, "bob", Back("a")), InYard, {"card": "a"}),
            ((6, "aa", Back("a")), InYard, {"card": "a"}),
            ((7, "bob", Back("a")), Blocked, {"card": "a"}),
            ((6, "ann", Let("a", "a")), NoWait, {"card": "a"}),
        ):
            self.assert_not_told(book, entry, error, fields)

    def test_a_later_one_cannot_be_done_any_more(self):
        book = book_of(
            (10, "ann", Add("a", "mid")), (20, "ann", Add("b", "mid")), (30, "ann", Pull("b")), (40, "ann", Add("c", "all"))
        )
        kind_full = {"lane": "lb", "kind": "mid", "bound": 1}
        self.assert_clashes(book, (10, "bob", Pull("a")), 2, KindFull, kind_full)
        self.assert_clashes(book, (29, "bob", Pull("a")), 2, KindFull, kind_full)
        self.assert_clashes(book, (30, "aa", Pull("a")), 2, KindFull, kind_full)
        self.assert_not_told(book, (30, "ann", Pull("a")), KindFull, kind_full)
        self.assert_clashes(book, (0, "bob", Add("a", "all")), 0, Twice, {"card": "a"})
        self.assert_clashes(book, (15, "bob", Add("b", "all")), 1, Twice, {"card": "b"})
        self.assert_clashes(book, (35, "bob", Add("c", "all")), 3, Twice, {"card": "c"})
        self.assert_clashes(book, (39, "bob", Add("c", "la")), 3, Twice, {"card": "c"})
        self.assert_clashes(book, (20, "bob", Wait("b", "lb", "a")), 2, Waits, {"card": "b", "other": "a"})
        self.assert_clashes(book, (20, "bob", Block("b")), 2, Blocked, {"card": "b"})

    def test_not_the_very_next_one(self):
        book = book_of(
            (1, "ann", Add("a", "all")), (2, "ann", Add("b", "mid")), (3, "ann", Pull("b")), (4, "ann", Pull("b")),
            (5, "ann", Pull("b")), (6, "ann", Pull("a")), (7, "ann", Pull("a")), (8, "ann", Bound("lb", 1)),
        )
        self.assert_clashes(book, (1, "ann", Block("a")), 5, Blocked, {"card": "a"})
        self.assert_clashes(book, (1, "bob", Wait("a", "lb", "a")), 6, Waits, {"card": "a", "other": "a"})
        self.assert_clashes(book, (2, "bob", Wait("b", "out", "a")), 4, Waits, {"card": "b", "other": "a"})
        self.assert_clashes(book, (3, "bob", Pull("b")), 4, Out, {"card": "b"})
        self.assertEqual(book.tell(0, "ann", Bound("lb", 1)), 0)

    def test_several_later_ones_cannot(self):
        book = book_of(
            (1, "ann", Add("a", "all")), (2, "ann", Add("b", "all")), (3, "ann", Pull("b")), (4, "ann", Pull("a")),
            (5, "ann", Pull("a")), (6, "ann", Pull("b")),
        )
        self.assert_clashes(book, (2, "bob", Block("a")), 3, Blocked, {"card": "a"})
        self.assert_clashes(book, (1, "bob", Bound("la", 1)), 3, Full, {"lane": "la", "bound": 1})
        self.assert_clashes(book, (3, "bob", Bound("lb", 1)), 5, Full, {"lane": "lb", "bound": 1})
        self.assert_clashes(book, (0, "bob", Add("b", "mid")), 1, Twice, {"card": "b"})

    def test_a_later_refusal_of_a_bound(self):
        book = book_of(
            (1, "ann", Add("a", "all")), (1, "ann", Add("b", "ends")), (2, "ann", Pull("a")), (3, "ann", Bound("la", 1))
        )
        self.assert_clashes(book, (2, "bob", Pull("b")), 3, Low, {"lane": "la", "many": 2})

    def test_its_own_refusal_goes_ahead_of_clash(self):
        book = book_of((5, "ann", Add("a", "all")), (6, "ann", Pull("a")), (9, "ann", Back("a")))
        # Put back at turn 6, the card could not be put back at turn 9 any more; but at turn 5 it is in the yard itself.
        self.assert_clashes(book, (6, "bob", Back("a")), 2, InYard, {"card": "a"})
        self.assert_not_told(book, (5, "bob", Back("a")), InYard, {"card": "a"})
        self.assert_not_told(book, (5, "bob", Add("a", "nokind")), NoKind, {"kind": "nokind"})
        self.assert_not_told(book, (4, "bob", Block("a")), NoCard, {"card": "a"})

    def test_refused_and_told_where_it_can_be(self):
        book = book_of((5, "ann", Add("a", "mid")), (6, "ann", Pull("a")))
        deed = Block("a")
        self.assert_clashes(book, (5, "ann", deed), 1, Blocked, {"card": "a"})
        self.assertEqual(book.tell(7, "ann", deed), 2)
        self.assertEqual(book.entries()[2], (7, "ann", deed))

    def test_a_refusal_is_of_the_deed_as_it_is_done_anew(self):
        book = book_of((1, "ann", Add("a", "all")), (2, "ann", Bound("la", 9)), (3, "ann", Pull("a")))
        self.assertEqual(book.tell(1, "bob", Add("b", "all")), 1)
        self.assertEqual(book.tell(2, "bob", Bound("la", 1)), 3)
        self.assert_clashes(book, (2, "zed", Pull("b")), 4, Full, {"lane": "la", "bound": 1})


class TwoHundred(Books):
    def test_the_two_hundredth_and_the_next(self):
        book = Book(WIDE)
        book.tell(0, "ann", Add("a", "all"))
        for at in range(1, 199):
            deed = Block("a") if at % 2 else Clear("a")
            self.assertEqual(book.tell(at, "ann", deed), at)
        self.assertEqual(book.tell(199, "ann", Block("a")), 199)
        self.assertEqual(len(book.entries()), 200)
        self.assertEqual(len(book.stands()), 201)
        for entry in (
            (200, "ann", Clear("a")), (0, "aa", Add("b", "all")), (200, "ann", Clear("b")), (5, "ann", Add("b", "nokind")),
            (5, "ann", Clear("a")), (5, "bob", Pull("x")), (LAST_TURN, "zed", Bound("la", 9)),
        ):
            self.assert_not_told(book, entry, TooMany, {})
        self.assertEqual(book.strike(199)[0], 199)
        self.assert_not_told(book, (200, "ann", Clear("a")), Free, {"card": "a"})
        self.assertEqual(book.tell(0, "aa", Add("b", "all")), 0)
        self.assert_not_told(book, (0, "aa", Add("c", "all")), TooMany, {})

    def test_told_turned_about(self):
        book = Book(WIDE)
        for turn in range(199, -1, -1):
            self.assertEqual(book.tell(turn, "ann", Bound("la", turn % 99 + 1)), 0)
        self.assert_not_told(book, (0, "a", Bound("la", 1)), TooMany, {})
        self.assertEqual([entry[0] for entry in book.entries()], list(range(200)))
        self.assertEqual([stand[0][0] for stand in book.stands()], [4] + [turn % 99 + 1 for turn in range(200)])


class Struck(Books):
    entries = (
        (1, "ann", Add("a", "all")), (2, "ann", Bound("la", 3)), (2, "bob", Bound("lb", 9)), (3, "ann", Add("b", "mid")),
        (3, "ann", Wait("b", "ld", "a")), (4, "ann", Pull("a")), (9, "ann", Pull("a")),
    )

    def test_each_entry_that_can_be(self):
        for at in (1, 2, 4, 6):
            self.assert_struck(book_of(*self.entries), at)

    def test_each_after_another_from_behind_and_from_ahead(self):
        book = book_of(*self.entries)
        for at in range(len(self.entries) - 1, -1, -1):
            self.assert_struck(book, at)
        self.assertEqual(shown(book), ([], [first_stand(WIDE)], first_stand(WIDE), WIDE))
        book = book_of(*((turn, "ann", Bound("la", turn)) for turn in range(1, 9)))
        for each in range(8):
            self.assert_struck(book, 0)
        self.assertEqual(book.stands(), [first_stand(WIDE)])

    def test_clash(self):
        book = book_of(*self.entries)
        self.assert_strike_clashes(book, 0, 4, NoCard, {"card": "a"})
        self.assert_strike_clashes(book, 3, 4, NoCard, {"card": "b"})
        book = book_of(
            (1, "ann", Add("a", "mid")), (2, "ann", Pull("a")), (3, "ann", Pull("a")), (4, "ann", Pull("a")),
            (5, "ann", Add("b", "mid")), (6, "ann", Pull("b")), (7, "ann", Bound("la", 1)), (8, "ann", Back("b")),
        )
        self.assert_strike_clashes(book, 0, 1, NoCard, {"card": "a"})
        self.assert_strike_clashes(book, 4, 5, NoCard, {"card": "b"})
        self.assert_strike_clashes(book, 5, 7, InYard, {"card": "b"})
        self.assert_struck(book, 3)
        self.assert_struck(book, 6)

    def test_the_first_of_several_not_the_very_next_one(self):
        book = book_of(
            (1, "ann", Add("a", "mid")), (1, "ann", Add("b", "mid")), (2, "ann", Pull("a")), (3, "ann", Pull("a")),
            (4, "ann", Bound("lc", 3)), (5, "ann", Pull("b")), (6, "ann", Bound("lb", 1)), (7, "ann", Pull("b")),
        )
        self.assert_strike_clashes(book, 3, 5, KindFull, {"lane": "lb", "kind": "mid", "bound": 1})
        self.assert_strike_clashes(book, 2, 5, KindFull, {"lane": "lb", "kind": "mid", "bound": 1})
        self.assert_strike_clashes(book, 1, 5, NoCard, {"card": "b"})

    def test_struck_pulls_lead_to_other_stands(self):
        book = book_of((1, "ann", Add("a", "all")), (2, "ann", Pull("a")), (3, "ann", Pull("a")), (4, "ann", Pull("a")))
        self.assert_struck(book, 2)
        self.assertEqual([stand[1] for stand in book.stands()[1:]], [
            (("a", "all", 0, False),), (("a", "all", 1, False),), (("a", "all", 2, False),)
        ])

    def test_numbers_of_no_entry(self):
        for many in (0, 1, len(self.entries)):
            book = book_of(*self.entries[:many])
            for at in (-1, -2, -many, -many - 1, many, many + 1, 199, 200, 10 ** 60 - 1, 1 - 10 ** 60):
                if at not in range(many):
                    self.assert_not_struck(book, at, NoEntry, {"at": at})

    def test_struck_and_told_again(self):
        for at in (1, 2, 4, 6):
            book = book_of(*self.entries)
            before = shown(book)
            entry = book.strike(at)
            self.assertEqual(book.tell(*entry), at)
            self.assertEqual(shown(book), before)

    def test_told_again_it_is_the_last_of_its_hand_at_its_turn(self):
        book = book_of(*((5, "ann", Add(card, "all")) for card in "abc"), (5, "bob", Add("d", "all")))
        for at, number, cards in ((0, 2, "bcad"), (1, 2, "bacd"), (2, 2, "bacd"), (3, 3, "bacd")):
            self.assertEqual(book.tell(*book.strike(at)), number)
            self.assertEqual("".join(deed.card for turn, hand, deed in book.entries()), cards)

    def test_what_clashed_can_be_told_where_the_other_is_struck(self):
        book = book_of((1, "ann", Add("a", "mid")), (1, "ann", Add("b", "mid")), (5, "ann", Pull("b")))
        self.assert_clashes(book, (4, "ann", Pull("a")), 2, KindFull, {"lane": "lb", "kind": "mid", "bound": 1})
        self.assert_struck(book, 2)
        self.assertEqual(book.tell(4, "ann", Pull("a")), 2)
        self.assert_not_told(book, (5, "ann", Pull("b")), KindFull, {"lane": "lb", "kind": "mid", "bound": 1})


class StandsAtTurns(Books):
    entries = (
        (3, "ann", Add("a", "all")), (3, "ann", Pull("a")), (3, "bob", Pull("a")), (7, "ann", Pull("a")),
        (LAST_TURN, "ann", Pull("a")),
    )

    def test_ahead_of_at_between_and_behind(self):
        book = book_of(*self.entries)
        stands = book.stands()
        for turn, at in (
            (-LAST_TURN, 0), (-1, 0), (0, 0), (2, 0), (3, 3), (4, 3), (6, 3), (7, 4), (8, 4), (LAST_TURN - 1, 4),
            (LAST_TURN, 5), (LAST_TURN + 1, 5), (10 ** 60 - 1, 5), (1 - 10 ** 60, 0),
        ):
            self.assertEqual(book.stand_at(turn), stands[at], turn)

    def test_an_entry_at_turn_0(self):
        book = book_of((0, "ann", Add("a", "all")), (1, "ann", Pull("a")))
        self.assertEqual([book.stand_at(turn) for turn in (-1, 0, 1, 2)], [book.stands()[at] for at in (0, 1, 2, 2)])

    def test_of_late_and_struck_ones(self):
        book = book_of(*self.entries)
        book.tell(5, "ann", Bound("la", 1))
        self.assertEqual(book.stand_at(4)[0], (4, 2, 3, 5))
        self.assertEqual(book.stand_at(5)[0], (1, 2, 3, 5))
        book.strike(3)
        self.assertEqual(book.stand_at(5)[0], (4, 2, 3, 5))

    def test_asking_changes_nothing(self):
        book = book_of(*self.entries)
        before = shown(book)
        for turn in (-5, 0, 3, 5, LAST_TURN):
            book.stand_at(turn)
        self.assertEqual(shown(book), before)


class ListsAreTheAskersOwn(Books):
    def test_told_lists_changed_and_asked_again(self):
        book = book_of((1, "ann", Add("a", "all")), (2, "ann", Pull("a")))
        before = shown(book)
        for told in (book.entries(), book.stands()):
            told.reverse()
            told.append("x")
            self.assertEqual(shown(book), before)
            told.clear()
            self.assertEqual(shown(book), before)
        self.assertEqual(book.tell(3, "ann", Pull("a")), 2)

    def test_told_lists_stay_when_the_book_changes(self):
        book = book_of((1, "ann", Add("a", "all")), (2, "ann", Pull("a")))
        entries, stands = book.entries(), book.stands()
        kept = list(entries), list(stands)
        book.tell(1, "ann", Add("b", "all"))
        book.strike(2)
        book.strike(0)
        self.assertEqual((entries, stands), kept)
        self.assertIsNot(book.entries(), book.entries())
        self.assertIsNot(book.stands(), book.stands())


if __name__ == "__main__":
    unittest.main()
