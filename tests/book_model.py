"""What books tell, told once more: all entries in the order they came, sorted and done from the first stand at each call."""

from deed_model import Board


class Ledger:
    """A book of a plan; what is refused is told as the name of the class and the fields."""

    def __init__(self, plan):
        self.plan = plan
        self.told = []

    def in_order(self, told):
        """Sorting keeps things of one key as they came, so deeds of one hand at one turn keep theirs."""
        return sorted(told, key=lambda entry: entry[:2])

    def first_refused(self, entries):
        """The place of the first entry that can't be done, and its refusal; None where all can."""
        board = Board(self.plan)
        for at, (turn, hand, deed) in enumerate(entries):
            refusal = board.do(deed)
            if refusal:
                return at, refusal
        return None

    def tell(self, turn, hand, deed):
        """Whether it is in the book, and its number or its refusal."""
        if len(self.told) == 200:
            return False, ("TooMany", {})
        entry = (turn, hand, deed)
        entries = self.in_order([*self.told, entry])
        number = [each is entry for each in entries].index(True)
        found = self.first_refused(entries)
        if found is None:
            self.told.append(entry)
            return True, number
        at, refusal = found
        if at == number:
            return False, refusal
        return False, ("Clash", {"at": at - 1, "refusal": refusal})

    def strike(self, number):
        """Whether it is struck, and the entry or the refusal."""
        entries = self.in_order(self.told)
        if number not in range(len(entries)):
            return False, ("NoEntry", {"at": number})
        struck = entries.pop(number)
        found = self.first_refused(entries)
        if found:
            return False, ("Clash", {"at": found[0] + 1, "refusal": found[1]})
        self.told = [entry for entry in self.told if entry is not struck]
        return True, struck

    def entries(self):
        return self.in_order(self.told)

    def stands(self):
        board = Board(self.plan)
        stands = [board.stand()]
        for turn, hand, deed in self.entries():
            board.do(deed)
            stands.append(board.stand())
        return stands

    def stand_at(self, turn):
        return self.stands()[sum(entry[0] <= turn for entry in self.told)]
