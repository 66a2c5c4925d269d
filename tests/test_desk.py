"""[24]: what a desk answers to the rows that it is told."""

import unittest

from cardlanes.desk import Desk
from cardlanes.errors import NoCard, NoLane, NoText
from cardlanes.plantexts import shown_plan

from desk_model import Clerk
from desk_samples import ANSWERS, TEXT, TOLD, desk_of
from emptying_samples import TIGHT
from refusals import Refusals
from stand_samples import STAND_PLANS


class Making(Refusals):
    def test_is_a_class_with_its_own_methods(self):
        self.assertIs(type(Desk), type)
        for name in ("__init__", "say"):
            self.assertIn(name, vars(Desk))

    def test_of_each_plan_with_no_entries(self):
        for plan in (TIGHT, *STAND_PLANS):
            desk = Desk(shown_plan(plan))
            self.assertEqual(desk.say("book"), "")
            self.assertEqual(desk.say("empty 1"), "row")
            for name, bound in plan[0]:
                self.assertEqual(desk.say(f"lane {name} 0"), "-")
                self.assertEqual(desk.say(f"mean {name} -1 1"), "0/1")

    def test_of_a_text_that_is_no_plans(self):
        for text, row in (
            ("", 0), ("lane a 1", 1), ("lane a 1\nkind k", 1), ("lane a 1\nkind k a:1\n", 2), ("lane a 100", 0),
            ("lane a 1\nlane a 1", 1), ("kind k a:1", 0), (" lane a 1\nkind k a:1", 0), ("lane a 1\nkind k b:1", 1),
            ("lane a 1\nkind k a:1\nkind k a:1", 2), ("lane out 1\nkind k out:1", 0), ("book", 0),
        ):
            self.assert_refused(NoText, {"row": row}, Desk, text)

    def test_of_what_is_no_text(self):
        for thing in (None, True, 3, [], ["lane a 1", "kind k a:1"], ("lane a 1\nkind k a:1",)):
            self.assert_refused(NoText, {"row": 0}, Desk, thing)


class Answers(Refusals):
    def test_to_the_sign(self):
        desk = desk_of()
        for row, answer in ANSWERS:
            found = desk.say(row)
            self.assertIs(type(found), str)
            self.assertEqual(found, answer, row)

    def test_asked_again_they_are_the_same(self):
        desk = desk_of()
        for row, answer in (*ANSWERS, *reversed(ANSWERS)):
            self.assertEqual(desk.say(row), answer, row)

    def test_the_second_telling_says_the_same(self):
        clerk = Clerk(TEXT)
        for row in TOLD:
            self.assertTrue(clerk.say(row)[0])
        for row, answer in ANSWERS:
            self.assertTrue(clerk.is_right(row, (True, answer)), row)
            self.assertFalse(clerk.is_right(row, (True, answer + "x")), row)

    def test_tell_answers_the_number_where_the_entry_was_laid_in(self):
        desk = Desk(TEXT)
        for row, number in (
            ("tell 10 ann add axe bug", "0"), ("tell 30 ann pull axe", "1"), ("tell 20 bob bound todo 1", "1"),
            ("tell 20 ann bound todo 2", "1"), ("tell 20 ann bound todo 3", "2"), ("tell 0 ann bound done 1", "0"),
            ("tell 1000000000 abcdefgh bound done 2", "6"), ("tell 1000000000 a bound done 3", "6"),
        ):
            self.assertEqual(desk.say(row), number, row)
        self.assertEqual(desk.say("book"), "\n".join((
            "0 ann bound done 1", "10 ann add axe bug", "20 ann bound todo 2", "20 ann bound todo 3",
            "20 bob bound todo 1", "30 ann pull axe", "1000000000 a bound done 3", "1000000000 abcdefgh bound done 2",
        )))

    def test_numbers_of_several_figures(self):
        desk = Desk(TEXT)
        for number in range(12):
            self.assertEqual(desk.say(f"tell 5 ann bound todo {number + 1}"), str(number))
        self.assertEqual(desk.say("strike 10"), "bound todo 11")

    def test_each_deed_is_told_kept_and_struck(self):
        deeds = (
            "add axe bug", "add bee chore", "pull axe", "back axe", "block axe", "clear axe", "wait axe doing bee",
            "wait axe out axe", "let axe bee", "bound todo 1", "bound done 99",
        )
        desk = Desk(TEXT)
        for number, deed in enumerate(deeds):
            self.assertEqual(desk.say(f"tell {number} ann {deed}"), str(number))
            self.assertEqual(desk.say("book").split("\n")[-1], f"{number} ann {deed}")
        for number in reversed(range(len(deeds))):
            self.assertEqual(desk.say(f"strike {number}"), deeds[number])
        self.assertEqual(desk.say("book"), "")

    def test_strike_in_the_midst(self):
        desk = desk_of(["tell 1 ann bound todo 1", "tell 2 bob bound todo 2", "tell 3 ann bound todo 3"])
        self.assertEqual(desk.say("strike 1"), "bound todo 2")
        self.assertEqual(desk.say("book"), "1 ann bound todo 1\n3 ann bound todo 3")
        self.assertEqual(desk.say("strike 0"), "bound todo 1")
        self.assertEqual(desk.say("book"), "3 ann bound todo 3")

    def test_book_of_one_entry(self):
        self.assertEqual(desk_of(["tell 7 ann add axe bug"]).say("book"), "7 ann add axe bug")

    def test_visits(self):
        desk = desk_of(["tell 5 ann add axe bug"])
        self.assertEqual(desk.say("visits axe"), "-")
        for deed in ("pull", "back", "pull", "pull", "back"):
            desk.say(f"tell 6 ann {deed} axe")
        self.assertEqual(desk.say("visits axe"), "todo:6-6 todo:6-6 doing:6-6 todo:6-")

    def test_where_a_card_comes_and_goes_at_one_turn(self):
        desk = desk_of(["tell 5 ann add axe chore", "tell 6 ann pull axe", "tell 6 ann pull axe"])
        self.assertEqual(desk.say("where axe 5"), "yard")
        self.assertEqual(desk.say("where axe 6"), "out")
        self.assertEqual(desk.say("lane doing 6"), "-")
        self.assertEqual(desk.say("visits axe"), "doing:6-6")
        self.assertEqual(desk.say("stay axe doing 0 10"), "0")

    def test_a_lane_and_a_kind_and_a_card_of_one_name(self):
        desk = desk_of(["tell 0 tell add tell tell", "tell 1 tell pull tell"], "lane tell 1\nkind tell tell:1")
        for row, answer in (
            ("book", "0 tell add tell tell\n1 tell pull tell"), ("where tell 1", "tell"), ("lane tell 1", "tell"),
            ("stay tell tell 0 3", "2"), ("visits tell", "tell:1-"), ("empty 1", "row tell"),
        ):
            self.assertEqual(desk.say(row), answer)


class Empty(Refusals):
    def empty(self, most, *deeds):
        """What a desk of TIGHT answers behind these deeds."""
        desk = Desk(shown_plan(TIGHT))
        for turn, deed in enumerate(deeds):
            desk.say(f"tell {turn} ann {deed}")
        return desk.say(f"empty {most}")

    def test_blocked(self):
        self.assertEqual(self.empty(1, "add a all", "add c all", "add b all", "block c", "block b"), "blocked b")
        self.assertEqual(self.empty(200, "add a all", "wait a out a", "block a"), "blocked a")

    def test_ring(self):
        self.assertEqual(self.empty(1, "add a all", "wait a out a"), "ring a")
        self.assertEqual(self.empty(9, "add b all", "add a all", "wait a out b", "wait b la a"), "ring a b")
        self.assertEqual(self.empty(9, "add c all", "add b ka", "add a end", *(
            f"wait {card} out {other}" for card, other in ("ac", "cb", "ba")
        )), "ring a c b")

    def test_names_of_several_letters(self):
        adds = ("add axe all", "add beehives all")
        self.assertEqual(self.empty(9, *adds, "block beehives"), "blocked beehives")
        self.assertEqual(self.empty(9, *adds, "wait axe lb beehives", "wait beehives out axe"), "ring axe beehives")
        self.assertEqual(self.empty(9, "add beehives ka"), "row beehives beehives")

    def test_row(self):
        self.assertEqual(self.empty(1), "row")
        self.assertEqual(self.empty(1, "add a ka", "pull a", "pull a"), "row")
        self.assertEqual(self.empty(1, "add a all"), "row a a a")
        self.assertEqual(self.empty(1, "add a ka", "pull a"), "row a")

    def test_row_that_draining_does_not_find(self):
        deeds = ("add a all", "add b all", "wait a lb b")
        clerk = Clerk(shown_plan(TIGHT))
        for turn, deed in enumerate(deeds):
            clerk.say(f"tell {turn} ann {deed}")
        for most in (9, 10, 200):
            self.assertTrue(clerk.is_right(f"empty {most}", (True, self.empty(most, *deeds))))
        self.assertEqual(len(self.empty(200, *deeds).split(" ")), 7)

    def test_open_and_shut(self):
        stuck = ("add a all", "add b all", "wait a lb b", "pull a")
        self.assertEqual(self.empty(1, *stuck), "shut 1")
        self.assertEqual(self.empty(200, *stuck), "shut 1")
        more = (*stuck, "add c end")
        self.assertEqual(self.empty(1, *more), "open")
        self.assertEqual(self.empty(2, *more), "open")
        self.assertEqual(self.empty(3, *more), "shut 3")
        self.assertEqual(self.empty(200, *more), "shut 3")
        self.assertEqual(self.empty(1, "add a all", "add b all", "wait a lb b"), "open")

    def test_is_asked_of_the_last_stand(self):
        desk = desk_of(["tell 9 ann add a all", "tell 10 ann block a"], shown_plan(TIGHT))
        self.assertEqual(desk.say("empty 5"), "blocked a")
        desk.say("tell 9 bob pull a")
        self.assertEqual(desk.say("empty 5"), "blocked a")
        desk.say("tell 11 ann clear a")
        self.assertEqual(desk.say("empty 5"), "row a a")


class NothingElseChanges(Refusals):
    def test_a_refused_row_changes_nothing(self):
        desk = desk_of()
        for row in (
            "tell 0 ann pull cat", "tell 20 bob block axe", "tell 10 ann nonsense", "tell 10 ann ", "tell 10 ann", "strike 0",
            "strike 8", "where cat 10", "where axe 9", "lane shelf 10", "sum shelf 0 9", "stay cat todo 0 9", "mean shelf 0 9",
            "visits cat", "empty 0", "empty 201", "nonsense", "", None, 7, ["book"],
        ):
            with self.assertRaises(ValueError):
                desk.say(row)
            for asked, answer in ANSWERS:
                self.assertEqual(desk.say(asked), answer, row)

    def test_two_desks_beside_each_other(self):
        one, two = Desk(TEXT), Desk(TEXT)
        self.assertEqual(one.say("tell 10 ann add axe bug"), "0")
        self.assertEqual(two.say("book"), "")
        self.assertEqual(two.say("tell 5 bob add axe chore"), "0")
        self.assertEqual(one.say("tell 20 ann pull axe"), "1")
        self.assertEqual(one.say("book"), "10 ann add axe bug\n20 ann pull axe")
        self.assertEqual(two.say("book"), "5 bob add axe chore")
        self.assertEqual(two.say("where axe 20"), "yard")
        self.assertEqual(one.say("where axe 20"), "todo")
        self.assertEqual(two.say("strike 0"), "add axe chore")
        self.assertEqual(one.say("visits axe"), "todo:20-")
        self.assert_refused(NoCard, {"card": "axe"}, two.say, "visits axe")

    def test_two_desks_of_unlike_plans(self):
        one, two = Desk(TEXT), Desk(shown_plan(TIGHT))
        self.assert_refused(NoLane, {"lane": "la"}, one.say, "lane la 0")
        self.assert_refused(NoLane, {"lane": "todo"}, two.say, "lane todo 0")
        self.assertEqual(one.say("lane todo 0"), "-")
        self.assertEqual(two.say("lane la 0"), "-")


if __name__ == "__main__":
    unittest.main()
