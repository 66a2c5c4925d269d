"""[3], as far as it is asked at a desk: long rows of words, right ones and bent ones, held against a second telling."""

import random
import unittest

from cardlanes.desk import Desk
from cardlanes.errors import LaneError
from cardlanes.plantexts import shown_plan

from deed_model import any_deed
from desk_model import Clerk
from emptying_samples import TIGHT
from refusals import shown_error
from stand_samples import STAND_PLANS

EVEN = {"add": 4, "pull": 9, "back": 2, "block": 1, "clear": 2, "wait": 3, "let": 1, "bound": 2}
# Little that bars for good, and waits enough that lanes without room are shut by them.
NARROW = {"add": 2, "pull": 8, "wait": 8, "let": 3, "clear": 1}
ASKED = {
    "tell": 12, "strike": 2, "book": 1, "where": 3, "lane": 3, "sum": 2, "stay": 3, "mean": 2, "visits": 3, "empty": 4,
}
HANDS = ("ann", "bob", "zed")
BENDS = ("", " ", "  ", "\n", "-", "0", "7", "a", "out", "yard", "book", "tell", "la", "9", "99999999999")


def told(desk, row):
    """Whether the row is taken, and its answer; or how it is refused."""
    try:
        return True, desk.say(row)
    except LaneError as error:
        return False, shown_error(error)


class Rows:
    """Some rows, of a plan's lanes, few cards and these turns."""

    def __init__(self, seed, plan, turns, weights):
        self.chance = random.Random(seed)
        self.plan = plan
        self.turns = turns
        self.weights = weights
        self.lanes = [name for name, bound in plan[0]] * 4 + ["nolane"]

    def turn(self):
        return self.chance.choice(self.turns)

    def edge(self):
        return self.chance.choice((self.turn() + self.chance.randrange(-1, 2), -(10 ** 9), 2 * 10 ** 9, -7, 0))

    def card(self):
        return self.chance.choice("abcde")

    def any_row(self):
        word = self.chance.choices(list(ASKED), list(ASKED.values()))[0]
        lane, card = self.chance.choice(self.lanes), self.card()
        told = {
            "tell": lambda: f"{self.turn()} {self.chance.choice(HANDS)} {self.deed()}",
            "strike": lambda: str(self.chance.choice((0, 1, 5, 10, self.chance.randrange(30)))),
            "book": lambda: "",
            "where": lambda: f"{card} {self.turn()}",
            "lane": lambda: f"{lane} {self.turn()}",
            "sum": lambda: f"{lane} {self.edge()} {self.edge()}",
            "stay": lambda: f"{card} {lane} {self.edge()} {self.edge()}",
            "mean": lambda: f"{lane} {self.edge()} {self.edge()}",
            "visits": lambda: card,
            "empty": lambda: str(self.chance.choice((1, 2, 5, 20, 60, 200))),
        }[word]()
        return f"{word} {told}" if told else word

    def deed(self):
        return any_deed(self.chance, self.plan, list("abcde"), self.weights).written()

    def bent_row(self):
        """A row with one sign or word left out, doubled, put in, or exchanged with its neighbour."""
        row = self.any_row()
        parts = row.split(" ") if self.chance.random() < 0.5 else list(row)
        between = " " if len(parts) < len(row) else ""
        at = self.chance.randrange(len(parts))
        way = self.chance.randrange(4)
        if way == 0:
            parts[at:at + 1] = []
        elif way == 1:
            parts[at:at] = [parts[at]]
        elif way == 2:
            parts[at:at] = [self.chance.choice(BENDS)]
        else:
            parts[at:at + 2] = reversed(parts[at:at + 2])
        return between.join(parts)


class LongRows(unittest.TestCase):
    def go_through(self, plan, seed, turns, many, bent, weights=EVEN):
        """Many rows said to a desk and to a clerk; how often each outcome came."""
        rows = Rows(seed, plan, turns, weights)
        desk, clerk, came = Desk(shown_plan(plan)), Clerk(shown_plan(plan)), {}
        said = [f"tell {turns[0]} ann add {card} {rows.chance.choice(plan[1])[0]}" for card in "abcd"]
        for each in range(many):
            said.append(rows.bent_row() if rows.chance.random() < bent else rows.any_row())
        for row in said:
            found = told(desk, row)
            self.assertTrue(clerk.is_right(row, found), (row, found))
            self.assertEqual(desk.say("book"), clerk.say("book")[1])
            word = " ".join([row.split(" ")[0], *([] if found[0] else [found[1][0]])])
            if row.startswith("empty ") and found[0]:
                word = "empty " + found[1].split(" ")[0]
            came[word] = came.get(word, 0) + 1
        self.assertLessEqual(len(clerk.ledger.told), 64)
        return came

    def all_that_came(self, many, bent):
        came = {}
        for number, plan in enumerate((TIGHT, *STAND_PLANS)):
            for seed, turns in enumerate(((3,), range(6), range(40), (0, 1, 10 ** 9 - 1, 10 ** 9))):
                for word, times in self.go_through(plan, 10 * number + seed, turns, many, bent).items():
                    came[word] = came.get(word, 0) + times
        return came

    def test_rows_of_all_kinds(self):
        came = self.all_that_came(200, 0)
        for word in (
            "tell", "strike", "book", "where", "lane", "sum", "stay", "mean", "visits", "empty row", "empty blocked", "empty ring",
            "tell Clash", "strike Clash", "strike NoEntry", "where NoCard", "lane NoLane", "sum NoLane", "stay NoLane",
            "stay NoCard", "mean NoLane", "visits NoCard", "tell NoCard", "tell Twice", "tell Waits", "tell Full", "tell NoText",
        ):
            self.assertGreater(came.get(word, 0), 5, (word, came))

    def test_on_a_narrow_board(self):
        came = {}
        for seed in range(24):
            for word, times in self.go_through(TIGHT, seed, range(9), 200, 0, NARROW).items():
                came[word] = came.get(word, 0) + times
        for word in ("empty open", "empty shut", "empty ring", "empty row", "tell Waits", "tell Past", "tell Full"):
            self.assertGreater(came.get(word, 0), 5, (word, came))

    def test_bent_rows(self):
        came = self.all_that_came(200, 0.7)
        for word in ("tell NoText", "tell NoRow", "where NoRow", "stay NoRow", "empty NoRow", "strike NoRow", "tell", "stay"):
            self.assertGreater(came.get(word, 0), 5, (word, came))


if __name__ == "__main__":
    unittest.main()
