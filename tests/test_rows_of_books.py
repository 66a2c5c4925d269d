"""[3], as far as it speaks of books: long rows of tells and strikes, orders of telling, and deeds told late."""

import itertools
import random
import unittest

from cardlanes.books import Book
from cardlanes.deeds import Add, Back, Block, Bound, Clear, Pull, Wait
from cardlanes.deedtexts import read_deed
from cardlanes.errors import LaneError
from cardlanes.replay import replayed
from cardlanes.stands import is_stand

from book_model import Ledger
from deed_model import any_deed
from refusals import shown_error
from stand_samples import STAND_PLANS, WIDE, is_stand_by_the_words

EVEN = {"add": 5, "pull": 8, "back": 2, "block": 1, "clear": 1, "wait": 2, "let": 1, "bound": 3}
HANDS = ("ann", "bob", "zed")


def told(call, *things):
    """Whether the call is taken, and what it told; or how it is refused."""
    try:
        return True, call(*things)
    except LaneError as error:
        return False, shown_error(error)


class LongRows(unittest.TestCase):
    def go_through(self, plan, seed, turns, many, strikes):
        """Many tells and strikes, each held against the ledger; how often each outcome came."""
        chance = random.Random(seed)
        book, ledger, came = Book(plan), Ledger(plan), {}
        for each in range(many):
            if chance.random() < strikes:
                things = (chance.randrange(-2, len(book.entries()) + 2),)
                found, expected = told(book.strike, *things), ledger.strike(*things)
                word = "strike"
            else:
                things = (chance.choice(turns), chance.choice(HANDS), any_deed(chance, plan, list("abcde"), EVEN))
                found, expected = told(book.tell, *things), ledger.tell(*things)
                word = "tell"
            self.assertEqual(found, expected)
            self.assert_as_the_ledger(book, ledger)
            word = word if found[0] else f"{word} {found[1][0]}"
            came[word] = came.get(word, 0) + 1
        self.assert_turns(book, ledger, turns)
        return came

    def assert_as_the_ledger(self, book, ledger):
        entries = book.entries()
        self.assertEqual(entries, ledger.entries())
        stands = book.stands()
        self.assertEqual(stands, ledger.stands())
        self.assertEqual(len(stands), len(entries) + 1)
        self.assertEqual(book.stand(), stands[-1])

    def assert_turns(self, book, ledger, turns):
        for turn in turns:
            for near in (turn - 1, turn, turn + 1):
                self.assertEqual(book.stand_at(near), ledger.stand_at(near))
        self.assertEqual(replayed(book.plan(), [entry[2] for entry in book.entries()]), book.stands())
        for stand in book.stands():
            self.assertIs(is_stand(book.plan(), stand), True)
            self.assertTrue(is_stand_by_the_words(book.plan(), stand))

    def test_tells_and_strikes_of_all_kinds(self):
        came = {}
        for plan in STAND_PLANS:
            for seed, turns in enumerate(((3,), range(4), range(30), (0, 1, 10 ** 9 - 1, 10 ** 9))):
                for word, many in self.go_through(plan, seed, turns, 200, 0.1).items():
                    came[word] = came.get(word, 0) + many
        for word in (
            "tell", "strike", "tell Clash", "strike Clash", "strike NoEntry", "tell NoCard", "tell Twice", "tell Out",
            "tell Full", "tell KindFull", "tell Blocked", "tell Free", "tell Waits", "tell Past", "tell InYard",
            "tell NoKind", "tell NoLane", "tell NoWait",
        ):
            self.assertGreater(came.get(word, 0), 3, word)
        for word in ("tell", "strike", "tell Clash", "strike Clash", "strike NoEntry"):
            self.assertGreater(came[word], 50, word)

    def test_up_to_two_hundred_entries(self):
        chance = random.Random(5)
        book, ledger = Book(WIDE), Ledger(WIDE)
        many = 0
        while many < 5:
            deed = Bound(chance.choice(("la", "lb", "lc", "nolane")), chance.randrange(1, 100))
            things = (chance.randrange(50), chance.choice(HANDS), deed)
            found = told(book.tell, *things)
            self.assertEqual(found, ledger.tell(*things))
            many += found[1] == ("TooMany", {})
        self.assertEqual(len(book.entries()), 200)
        self.assert_as_the_ledger(book, ledger)


class OrdersOfTelling(unittest.TestCase):
    def books_of_orders(self, entries):
        """The books that come of the entries in each order in which none is refused."""
        books = []
        for order in itertools.permutations(entries):
            book = Book(WIDE)
            if all(told(book.tell, *entry)[0] for entry in order):
                books.append(book)
        return books

    def assert_one_book(self, entries, least):
        books = self.books_of_orders(entries)
        self.assertGreaterEqual(len(books), least)
        for book in books:
            self.assertEqual(book.entries(), books[0].entries())
            self.assertEqual(book.stands(), books[0].stands())
            self.assertEqual(book.entries(), sorted(book.entries(), key=lambda entry: entry[:2]))

    def test_unlike_turns(self):
        self.assert_one_book([
            (1, "ann", Add("a", "all")), (2, "ann", Add("b", "mid")), (3, "bob", Pull("a")), (4, "ann", Pull("b")),
            (5, "bob", Bound("la", 1)), (6, "zed", Pull("a")),
        ], 30)

    def test_unlike_hands_at_one_turn(self):
        self.assert_one_book([
            (1, "a", Add("a", "all")), (1, "b", Add("b", "all")), (1, "c", Wait("a", "lb", "b")), (1, "d", Bound("ld", 1)),
            (1, "e", Pull("a")), (1, "f", Block("a")),
        ], 20)

    def test_deeds_of_one_hand_at_one_turn_keep_the_order_in_which_they_were_told(self):
        entries = [(1, "ann", Bound("la", bound)) for bound in (5, 6, 7)]
        for order in itertools.permutations(entries):
            book = Book(WIDE)
            for entry in order:
                book.tell(*entry)
            self.assertEqual(book.entries(), list(order))

    def test_any_books_entries_told_in_other_orders(self):
        chance = random.Random(9)
        same = 0
        for each in range(60):
            turns = chance.sample(range(100), 14)
            first = Book(WIDE)
            for turn in turns:
                told(first.tell, turn, chance.choice(HANDS), any_deed(chance, WIDE, list("abc"), EVEN))
            entries = first.entries()
            for other in range(6):
                chance.shuffle(entries)
                book = Book(WIDE)
                if all(told(book.tell, *entry)[0] for entry in (entries if other else first.entries())):
                    self.assertEqual(book.entries(), first.entries())
                    self.assertEqual(book.stands(), first.stands())
                    same += 1
        self.assertGreater(same, 80)


class ToldLate(unittest.TestCase):
    def test_just_as_in_time_or_refused_as_it_would_have_been_or_the_first_that_cannot_be_done(self):
        chance = random.Random(21)
        outcomes = {"in": 0, "own": 0, "clash": 0}
        for each in range(800):
            entries = self.any_entries(chance)
            late = (2 * chance.randrange(12) + 1, "ann", any_deed(chance, WIDE, list("abcd"), EVEN))
            book = Book(WIDE)
            for entry in entries:
                book.tell(*entry)
            outcomes[self.outcome(book, entries, late)] += 1
        self.assertGreater(min(outcomes.values()), 30, outcomes)

    def any_entries(self, chance):
        """Entries that can be done in their order, at even turns."""
        book = Book(WIDE)
        for turn in range(0, 24, 2):
            told(book.tell, turn, "ann", any_deed(chance, WIDE, list("abcd"), EVEN))
        return book.entries()

    def outcome(self, book, entries, late):
        """The late entry is told, and held against a book to which all was told in time."""
        in_time = Book(WIDE)
        ahead = [entry for entry in entries if entry[0] < late[0]]
        behind = [entry for entry in entries if entry[0] > late[0]]
        for entry in ahead:
            in_time.tell(*entry)
        then = told(in_time.tell, *late)
        found = told(book.tell, *late)
        if not then[0]:
            self.assertEqual(found, then)
            return "own"
        for at, entry in enumerate(behind):
            later = told(in_time.tell, *entry)
            if not later[0]:
                self.assertEqual(found, (False, ("Clash", {"at": len(ahead) + at, "refusal": later[1]})))
                self.assertEqual(book.entries(), entries)
                return "clash"
        self.assertEqual(found, (True, len(ahead)))
        self.assertEqual(book.entries(), in_time.entries())
        self.assertEqual(book.stands(), in_time.stands())
        return "in"

    def test_by_hand(self):
        book = Book(WIDE)
        for turn, text in ((10, "add a all"), (20, "pull a"), (30, "add b ends"), (40, "pull b"), (50, "bound la 2")):
            book.tell(turn, "ann", read_deed(text))
        self.assertEqual(told(book.tell, 25, "bob", read_deed("bound la 1")), (
            False, ("Clash", {"at": 3, "refusal": ("Full", {"lane": "la", "bound": 1})})
        ))
        self.assertEqual(told(book.tell, 22, "bob", Pull("a")), (True, 2))
        self.assertEqual(told(book.tell, 25, "bob", Bound("la", 1)), (True, 3))
        self.assertEqual(told(book.tell, 45, "bob", Block("b")), (True, 6))
        self.assertEqual(told(book.tell, 43, "bob", Block("b")), (
            False, ("Clash", {"at": 6, "refusal": ("Blocked", {"card": "b"})})
        ))
        self.assertEqual(told(book.tell, 44, "bob", Clear("b")), (False, ("Free", {"card": "b"})))
        self.assertEqual(told(book.tell, 60, "bob", Back("b")), (False, ("Blocked", {"card": "b"})))
        self.assertEqual(book.stand(), ((2, 2, 3, 5), (("a", "all", 2, False), ("b", "ends", 1, True)), ()))
        self.assertEqual([entry[0] for entry in book.entries()], [10, 20, 22, 25, 30, 40, 45, 50])


if __name__ == "__main__":
    unittest.main()
