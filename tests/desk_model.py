"""What a desk answers, told once more: rows taken apart by one pattern each, and asked of the other models."""

import fractions
import re

from cardlanes.plantexts import read_plan

from book_model import Ledger
from deed_model import NAME, deed_of_text
from emptying_model import all_stands, row_empties, word_of
from stand_samples import rings_by_the_words
from sum_model import Sums

NUMBER = "(0|[1-9][0-9]{0,9})"
EDGE = "(0|-?[1-9][0-9]{0,9})"
WORD = f"({NAME})"
ROWS = {
    "tell": re.compile(f"tell {NUMBER} {WORD} (.*)", re.DOTALL),
    "strike": re.compile(f"strike {NUMBER}"),
    "book": re.compile("book"),
    "where": re.compile(f"where {WORD} {NUMBER}"),
    "lane": re.compile(f"lane {WORD} {NUMBER}"),
    "sum": re.compile(f"sum {WORD} {EDGE} {EDGE}"),
    "stay": re.compile(f"stay {WORD} {WORD} {EDGE} {EDGE}"),
    "mean": re.compile(f"mean {WORD} {EDGE} {EDGE}"),
    "visits": re.compile(f"visits {WORD}"),
    "empty": re.compile(f"empty {NUMBER}"),
}
NO_ROW = (False, ("NoRow", {}))


class Clerk:
    """A desk; say tells whether a row is taken, and its answer or how it is refused."""

    def __init__(self, text):
        self.plan = read_plan(text)
        self.lanes = [name for name, bound in self.plan[0]]
        self.ledger = Ledger(self.plan)

    def say(self, row):
        if type(row) is not str:
            return NO_ROW
        for word, pattern in ROWS.items():
            found = pattern.fullmatch(row)
            if found:
                return getattr(self, "say_" + word)(*found.groups())
        return NO_ROW

    def sums(self):
        return Sums(self.plan, self.ledger.entries())

    def are_edges(self, *edges):
        return all(-(10 ** 9) <= int(edge) <= 2 * 10 ** 9 for edge in edges)

    def say_tell(self, turn, hand, text):
        if int(turn) > 10 ** 9:
            return NO_ROW
        deed = deed_of_text(text)
        if deed is None:
            return False, ("NoText", {"row": 0})
        taken, told = self.ledger.tell(int(turn), hand, deed)
        return taken, str(told) if taken else told

    def say_strike(self, number):
        taken, told = self.ledger.strike(int(number))
        return taken, told[2].written() if taken else told

    def say_book(self):
        return True, "\n".join(" ".join((str(turn), hand, deed.written())) for turn, hand, deed in self.ledger.entries())

    def say_where(self, card, turn):
        if int(turn) > 10 ** 9:
            return NO_ROW
        places = self.sums().places_at(int(turn))
        return (True, places[card]) if card in places else (False, ("NoCard", {"card": card}))

    def say_lane(self, lane, turn):
        if int(turn) > 10 ** 9:
            return NO_ROW
        if lane not in self.lanes:
            return False, ("NoLane", {"lane": lane})
        places = self.sums().places_at(int(turn))
        return True, " ".join(sorted(card for card in places if places[card] == lane)) or "-"

    def say_sum(self, lane, start, end):
        if not self.are_edges(start, end):
            return NO_ROW
        if lane not in self.lanes:
            return False, ("NoLane", {"lane": lane})
        return True, str(self.sums().cards_over(lane, int(start), int(end)))

    def say_stay(self, card, lane, start, end):
        if not self.are_edges(start, end):
            return NO_ROW
        if lane not in self.lanes:
            return False, ("NoLane", {"lane": lane})
        if card not in self.sums().places_at(10 ** 9):
            return False, ("NoCard", {"card": card})
        return True, str(self.sums().stay(card, lane, int(start), int(end)))

    def say_mean(self, lane, start, end):
        taken, told = self.say_sum(lane, start, end)
        if not taken:
            return taken, told
        if int(start) >= int(end):
            return True, "-"
        mean = fractions.Fraction(int(told), int(end) - int(start))
        return True, f"{mean.numerator}/{mean.denominator}"

    def say_visits(self, card):
        if card not in self.sums().places_at(10 ** 9):
            return False, ("NoCard", {"card": card})
        words = []
        for lane, came, left in self.sums().visits(card):
            words.append(f"{lane}:{came}-" + ("" if left is None else str(left)))
        return True, " ".join(words) or "-"

    def say_empty(self, most):
        """The answer; or, where it begins so but several would do, just its first word."""
        if not 1 <= int(most) <= 200:
            return NO_ROW
        stand = self.ledger.stands()[-1]
        word = word_of(self.plan, stand, int(most))
        if word == "blocked":
            word += " " + min(card[0] for card in stand[1] if card[3])
        elif word == "shut":
            word += f" {len(all_stands(self.plan, stand))}"
        return True, word

    def is_right(self, row, found):
        """The row said to the clerk too; whether what was found is what it told, or would do as well."""
        told = self.say(row)
        if row.startswith("empty ") and told[1] in ("ring", "row"):
            return found[0] and self.shows(told[1], found[1])
        return found == told

    def shows(self, word, answer):
        """Whether the answer is of this word, and its names are a ring or a row of the last stand."""
        first, *names = answer.split(" ")
        if first != word:
            return False
        stand = self.ledger.stands()[-1]
        return names in rings_by_the_words(self.plan, stand) if word == "ring" else row_empties(self.plan, stand, names)
