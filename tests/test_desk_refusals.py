"""[24]: the rows that a desk refuses, and which refusal goes first."""

import unittest

from cardlanes.desk import Desk
from cardlanes.errors import (
    Blocked, Free, Full, InYard, KindFull, Low, NoCard, NoEntry, NoKind, NoLane, NoRow, NoText, NoWait, Out, Past,
    TooMany, Twice, Waits,
)

from desk_samples import TEXT, desk_of
from refusals import Refusals

ROWS = (
    "tell 10 ann add axe bug", "strike 0", "book", "where axe 10", "lane todo 0", "sum todo 0 9", "stay axe todo 0 9",
    "mean todo 0 9", "visits axe", "empty 9",
)
NO_NUMBERS = (
    "00", "01", "007", "0000000001", "00000000001", "10000000000", "99999999999", "-0", "-00", "-01", "--1", "+1", "+0", "-",
    "", "1.0", "1_0", "1e3", "0x1", "a", "1a", "1-", "1\n", "\n1", "1,", "ten",
)
NO_NAMES = ("", "out", "yard", "Axe", "axeaxeaxe", "axe1", "a-b", "7", "-", "axe\n", "\naxe", "a_b", "~")
NO_ROWS = (None, True, False, 0, 7, [], ["book"], ("book",), (), [["book"]], ["visits", "axe"], ("empty", 9))


class Desks(Refusals):
    def assert_no_row(self, desk, row):
        """The row is refused with NoRow, and changes nothing."""
        ahead = desk.say("book")
        with self.assertRaises(ValueError) as caught:
            desk.say(row)
        self.assertIs(type(caught.exception), NoRow, row)
        self.assertEqual(desk.say("book"), ahead)


class NoSuchRows(Desks):
    def setUp(self):
        self.desk = desk_of()

    def test_what_is_no_text(self):
        for thing in NO_ROWS:
            self.assert_no_row(self.desk, thing)

    def test_texts_that_are_no_rows(self):
        for row in ("", " ", "  ", "\n", "-", "axe", "Book", "BOOK", "books", "boo", "tel 1 ann pull bee", "add cat bug",
                    "pull bee", "1", "~", "entries", "stand", "say book", "book\n", "\nbook", "book\nbook", "drained"):
            self.assert_no_row(self.desk, row)

    def test_words_left_out(self):
        for row in ROWS[1:]:
            words = row.split(" ")
            for at in range(len(words)):
                self.assert_no_row(self.desk, " ".join(words[:at] + words[at + 1:]))

    def test_words_twice_and_put_in(self):
        for row in ROWS[1:]:
            words = row.split(" ")
            for at in range(len(words)):
                self.assert_no_row(self.desk, " ".join(words[:at + 1] + words[at:]))
            for at in range(len(words) + 1):
                for word in ("axe", "todo", "5", "book", "-"):
                    self.assert_no_row(self.desk, " ".join(words[:at] + [word] + words[at:]))

    def test_words_exchanged(self):
        for row in (
            "0 strike", "axe where 10", "where 10 axe", "10 axe where", "lane 0 todo", "todo lane 0", "sum 0 todo 9",
            "sum 0 9 todo", "todo sum 0 9", "stay axe 0 todo 9", "stay 0 axe todo 9", "stay axe 0 9 todo", "axe stay todo 0 9",
            "mean 0 todo 9", "mean 0 9 todo", "axe visits", "9 empty", "tell ann 10 add axe bug", "10 tell ann add axe bug",
        ):
            self.assert_no_row(self.desk, row)

    def test_exchanged_words_that_make_another_row(self):
        self.assertEqual(self.desk.say("sum todo 9 0"), "0")
        self.assertEqual(self.desk.say("mean todo 9 0"), "-")
        self.assert_refused(NoLane, {"lane": "axe"}, self.desk.say, "stay todo axe 0 9")

    def test_blanks_ahead_behind_and_twice(self):
        for row in ROWS[1:]:
            self.assert_no_row(self.desk, " " + row)
            self.assert_no_row(self.desk, row + " ")
            words = row.split(" ")
            for at in range(1, len(words)):
                self.assert_no_row(self.desk, " ".join(words[:at]) + "  " + " ".join(words[at:]))
                self.assert_no_row(self.desk, " ".join(words[:at]) + "\n" + " ".join(words[at:]))
                self.assert_no_row(self.desk, " ".join(words[:at]) + "\t" + " ".join(words[at:]))

    def test_numbers_that_are_not_so_written(self):
        for number in NO_NUMBERS:
            for row in (
                f"tell {number} ann add cat bug", f"strike {number}", f"where axe {number}", f"lane todo {number}",
                f"sum todo {number} 9", f"sum todo 0 {number}", f"stay axe todo {number} 9", f"stay axe todo 0 {number}",
                f"mean todo {number} 9", f"mean todo 0 {number}", f"empty {number}",
            ):
                self.assert_no_row(self.desk, row)

    def test_a_minus_where_none_may_be(self):
        for number in ("-1", "-10", "-1000000000"):
            for row in (
                f"tell {number} ann add cat bug", f"strike {number}", f"where axe {number}", f"lane todo {number}",
                f"empty {number}",
            ):
                self.assert_no_row(self.desk, row)

    def test_one_beyond_the_bounds(self):
        for row in (
            "tell 1000000001 ann add cat bug", "strike 10000000000", "where axe 1000000001", "lane todo 1000000001",
            "sum todo 2000000001 0", "sum todo 0 2000000001", "sum todo -1000000001 0", "sum todo 0 -1000000001",
            "stay axe todo 2000000001 0", "stay axe todo 0 2000000001", "stay axe todo -1000000001 0",
            "stay axe todo 0 -1000000001", "mean todo 2000000001 0", "mean todo 0 2000000001", "mean todo -1000000001 0",
            "mean todo 0 -1000000001", "empty 0", "empty 201", "empty 9999999999", "where axe 9999999999",
            "sum todo -2000000000 0", "sum todo -9999999999 9999999999",
        ):
            self.assert_no_row(self.desk, row)

    def test_just_at_the_bounds(self):
        for row in (
            "where bee 1000000000", "lane todo 1000000000", "sum todo 2000000000 2000000000",
            "sum todo -1000000000 -1000000000", "stay axe todo 2000000000 -1000000000", "mean todo -1000000000 2000000000",
            "empty 1", "empty 200", "tell 1000000000 zed bound todo 9", "tell 0 a bound todo 9",
        ):
            self.assertIs(type(self.desk.say(row)), str)

    def test_names_that_are_none(self):
        for name in NO_NAMES:
            for row in (
                f"tell 10 {name} add cat bug", f"where {name} 10", f"lane {name} 10", f"sum {name} 0 9",
                f"stay {name} todo 0 9", f"stay axe {name} 0 9", f"mean {name} 0 9", f"visits {name}",
            ):
                self.assert_no_row(self.desk, row)


class Tells(Desks):
    def setUp(self):
        self.desk = desk_of()

    def assert_no_text(self, row):
        ahead = self.desk.say("book")
        self.assert_refused(NoText, {"row": 0}, self.desk.say, row)
        self.assertEqual(self.desk.say("book"), ahead)

    def test_nothing_behind_the_blank(self):
        self.assert_no_text("tell 10 ann ")

    def test_without_that_blank(self):
        for row in ("tell", "tell ", "tell 10", "tell 10 ", "tell 10 ann", "tell 10ann ", "tell 10 ann\nadd cat bug"):
            self.assert_no_row(self.desk, row)

    def test_a_text_that_is_no_deeds(self):
        for text in (
            "add", "add cat", "add cat bug bug", "cat bug", "bug cat add", "ADD cat bug", "pull", "pull bee bee", "wait bee doing",
            "wait bee yard axe", "let bee", "let bee out axe", "bound todo", "bound todo 0", "bound todo 01",
            "bound todo 100", "bound todo -1", "bound out 1", "add out bug", "pull yard", "pull", "\n", "pull bee\n",
            "pull bee\npull bee", "pull  bee", "tell 10 ann pull bee", "book", "-", "0",
        ):
            self.assert_no_text(f"tell 10 ann {text}")

    def test_blanks_ahead_of_the_deed_and_behind_it(self):
        self.assert_no_text("tell 10 ann  add cat bug")
        self.assert_no_text("tell 10 ann   add cat bug")
        self.assert_no_text("tell 10 ann add cat bug ")
        self.assert_no_text("tell 10 ann  ")

    def test_blanks_elsewhere(self):
        for row in (
            " tell 10 ann add cat bug", "tell  10 ann add cat bug", "tell 10  ann add cat bug", "tell 10  add cat bug",
        ):
            self.assert_no_row(self.desk, row)

    def test_words_left_out_twice_and_put_in(self):
        self.assert_no_text("tell 10 add cat bug")
        self.assert_no_text("tell 10 ann ann add cat bug")
        self.assert_no_text("tell 10 bob ann add cat bug")
        for row in (
            "10 ann add cat bug", "tell ann add cat bug", "tell tell 10 ann add cat bug", "tell 10 10 ann add cat bug",
            "tell 10 5 ann add cat bug", "tell axe 10 ann add cat bug",
        ):
            self.assert_no_row(self.desk, row)


class Refused(Desks):
    def setUp(self):
        self.desk = desk_of()

    def test_a_lane_that_is_not_there(self):
        for row in ("lane shelf 10", "sum shelf 0 9", "stay axe shelf 0 9", "mean shelf 0 9", "mean shelf 9 0"):
            self.assert_refused(NoLane, {"lane": "shelf"}, self.desk.say, row)

    def test_a_kind_is_no_lane(self):
        self.assert_refused(NoLane, {"lane": "bug"}, self.desk.say, "lane bug 10")

    def test_a_card_that_is_not_there(self):
        for row in ("where cat 10", "stay cat todo 0 9", "visits cat"):
            self.assert_refused(NoCard, {"card": "cat"}, self.desk.say, row)

    def test_a_card_that_is_not_there_at_the_turn(self):
        self.assert_refused(NoCard, {"card": "axe"}, self.desk.say, "where axe 9")
        self.assert_refused(NoCard, {"card": "axe"}, self.desk.say, "where axe 0")
        self.assert_refused(NoCard, {"card": "bee"}, self.desk.say, "where bee 19")
        self.assertEqual(self.desk.say("stay bee todo 0 19"), "0")
        self.assertEqual(self.desk.say("stay bee todo -9 -5"), "0")

    def test_strike(self):
        for number in (8, 9, 200, 9999999999):
            self.assert_refused(NoEntry, {"at": number}, self.desk.say, f"strike {number}")
        self.assert_refused(NoEntry, {"at": 0}, Desk(TEXT).say, "strike 0")

    def test_strike_that_upsets_others(self):
        self.assert_clash(2, NoCard, {"card": "axe"}, self.desk.say, "strike 0")
        self.assert_clash(3, NoCard, {"card": "bee"}, self.desk.say, "strike 1")
        desk = desk_of(["tell 0 ann bound doing 2", "tell 1 ann add a chore", "tell 1 ann add b bug", "tell 2 ann pull a"])
        desk.say("tell 3 ann pull b")
        desk.say("tell 4 ann pull b")
        self.assert_clash(5, Full, {"lane": "doing", "bound": 1}, desk.say, "strike 0")

    def test_deeds(self):
        self.desk.say("tell 1000000000 zed wait bee done bee")
        self.desk.say("tell 1000000000 zed add elk bug")
        for deed, error, fields in (
            ("add cat nokind", NoKind, {"kind": "nokind"}), ("add axe bug", Twice, {"card": "axe"}),
            ("pull cat", NoCard, {"card": "cat"}), ("pull axe", Out, {"card": "axe"}), ("back axe", Out, {"card": "axe"}),
            ("pull bee", Waits, {"card": "bee", "other": "bee"}), ("back elk", InYard, {"card": "elk"}),
            ("clear elk", Free, {"card": "elk"}), ("block axe", Out, {"card": "axe"}),
            ("wait bee todo elk", Past, {"card": "bee"}), ("wait elk shelf bee", NoLane, {"lane": "shelf"}),
            ("wait cat todo bee", NoCard, {"card": "cat"}), ("let elk bee", NoWait, {"card": "elk"}),
            ("bound shelf 1", NoLane, {"lane": "shelf"}),
        ):
            self.assert_refused(error, fields, self.desk.say, f"tell 1000000000 zed {deed}")

    def test_bounds(self):
        desk = desk_of([f"tell 0 ann add {card} bug" for card in "abc"] + ["tell 1 ann pull a", "tell 1 ann pull b"])
        self.assert_refused(KindFull, {"lane": "todo", "kind": "bug", "bound": 2}, desk.say, "tell 1 ann pull c")
        self.assert_refused(Low, {"lane": "todo", "many": 2}, desk.say, "tell 1 ann bound todo 1")
        desk.say("tell 1 ann bound todo 2")
        self.assert_refused(Full, {"lane": "todo", "bound": 2}, desk.say, "tell 1 ann pull c")
        desk.say("tell 2 ann block a")
        self.assert_refused(Blocked, {"card": "a"}, desk.say, "tell 2 ann pull a")

    def test_late_deeds(self):
        self.assert_refused(NoCard, {"card": "axe"}, self.desk.say, "tell 9 zed pull axe")
        self.assert_clash(2, Blocked, {"card": "axe"}, self.desk.say, "tell 20 bob block axe")
        self.assert_clash(0, Twice, {"card": "axe"}, self.desk.say, "tell 9 ann add axe chore")

    def test_too_many_entries(self):
        desk = desk_of(["tell 0 ann bound todo 1"] * 200)
        for deed in ("bound todo 1", "pull cat", "add cat bug"):
            self.assert_refused(TooMany, {}, desk.say, f"tell 0 ann {deed}")
        self.assertEqual(len(desk.say("book").split("\n")), 200)
        self.assertEqual(desk.say("strike 199"), "bound todo 1")
        self.assertEqual(desk.say("tell 0 ann bound todo 1"), "199")

    def test_too_many_cards(self):
        names = [first + second for first in "abcdef" for second in "abcdef"][:31]
        desk = desk_of([f"tell 0 ann add {name} bug" for name in names[:30]])
        self.assert_refused(TooMany, {}, desk.say, f"tell 0 ann add {names[30]} bug")


class WhichGoesFirst(Desks):
    def setUp(self):
        self.desk = desk_of()

    def test_no_row_ahead_of_all(self):
        for row in (
            "tell 01 ann nonsense", "tell 1000000001 ann pull cat", "tell 10 out nonsense", "tell 10 ANN ", "tell -1 ann pull cat",
            "strike 0000000099", "where cat 1000000001", "where cat -1", "lane shelf 01", "sum shelf 0 -0", "sum shelf -0 9",
            "stay cat shelf 0 x", "stay cat shelf 01 9", "stay cat out 0 9", "stay out shelf 0 9", "mean shelf 0 2000000001",
            "visits cat cat", "lane shelf 9 9", "stay cat todo 0 -1000000001",
        ):
            self.assert_no_row(self.desk, row)

    def test_no_row_ahead_of_too_many(self):
        desk = desk_of(["tell 0 ann bound todo 1"] * 200)
        self.assert_no_row(desk, "tell 01 ann bound todo 1")
        self.assert_no_row(desk, "tell 0 out bound todo 1")
        self.assert_no_row(desk, "tell 0 ann")

    def test_no_text_ahead_of_too_many(self):
        desk = desk_of(["tell 0 ann bound todo 1"] * 200)
        for text in ("", "nonsense", "bound todo 0"):
            self.assert_refused(NoText, {"row": 0}, desk.say, f"tell 0 ann {text}")

    def test_too_many_ahead_of_what_the_deed_refuses(self):
        desk = desk_of(["tell 0 ann bound todo 1"] * 200)
        self.assert_refused(TooMany, {}, desk.say, "tell 0 ann bound shelf 1")
        self.assert_refused(TooMany, {}, desk.say, "tell 0 ann pull cat")

    def test_no_lane_ahead_of_no_card(self):
        self.assert_refused(NoLane, {"lane": "shelf"}, self.desk.say, "stay cat shelf 0 9")
        self.assert_refused(NoLane, {"lane": "shelf"}, self.desk.say, "stay cat shelf 9 0")
        self.assert_refused(NoCard, {"card": "cat"}, self.desk.say, "stay cat todo 9 0")

    def test_the_deeds_own_refusal_ahead_of_a_clash(self):
        self.assert_refused(NoKind, {"kind": "nokind"}, self.desk.say, "tell 9 ann add axe nokind")
        self.assert_refused(Free, {"card": "axe"}, self.desk.say, "tell 10 bob clear axe")

    def test_in_deeds_as_the_deeds_tell(self):
        for deed, error, fields in (
            ("add axe nokind", NoKind, {"kind": "nokind"}), ("wait cat shelf dog", NoCard, {"card": "cat"}),
            ("wait bee shelf dog", NoCard, {"card": "dog"}), ("let cat dog", NoCard, {"card": "cat"}),
            ("wait bee shelf axe", NoLane, {"lane": "shelf"}),
        ):
            self.assert_refused(error, fields, self.desk.say, f"tell 1000000000 zed {deed}")


if __name__ == "__main__":
    unittest.main()
