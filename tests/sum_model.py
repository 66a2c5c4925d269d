"""What books come to over turns, told once more: turn by turn, or by every turn at which something may begin or end."""

from deed_model import Board


class Sums:
    """Where each card is behind each entry of a book, by the names of lanes."""

    def __init__(self, plan, entries):
        board = Board(plan)
        self.rows = []
        for turn, hand, deed in entries:
            board.do(deed)
            self.rows.append((turn, {card: board.where(card) for card in board.kinds}))

    def places_at(self, turn):
        """Where each card is at the turn."""
        found = {}
        for told, places in self.rows:
            if told <= turn:
                found = places
        return found

    def pieces(self, start, end):
        """The turns cut at each entry: for each piece how many turns it has, and where the cards are at them."""
        if start >= end:
            return []
        cuts = sorted({turn for turn, places in self.rows if start < turn < end} | {start, end})
        return [(there - here, self.places_at(here)) for here, there in zip(cuts, cuts[1:])]

    def stay(self, card, name, start, end):
        """At how many of the turns the card is in the lane of that name."""
        return sum(many for many, places in self.pieces(start, end) if places.get(card) == name)

    def cards_over(self, name, start, end):
        """The cards of the lane of that name over the turns."""
        return sum(many * list(places.values()).count(name) for many, places in self.pieces(start, end))

    def cards_turn_by_turn(self, name, start, end):
        return sum(list(self.places_at(turn).values()).count(name) for turn in range(start, end))

    def visits(self, card):
        """[19], but with lanes by their names."""
        found = []
        ahead = "yard"
        for turn, places in self.rows:
            here = places.get(card, "yard")
            if here != ahead:
                if ahead != "yard":
                    found[-1][2] = turn
                if here not in ("yard", "out"):
                    found.append([here, turn, None])
            ahead = here
        return [tuple(visit) for visit in found]
