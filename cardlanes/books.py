"""Books: entries in the order of their turns, and the stands to which their deeds lead."""

from cardlanes.errors import NoEntry, TooMany
from cardlanes.replay import replayed_from
from cardlanes.stands import first_stand

MOST_ENTRIES = 200


class Book:
    """The entries that hands have told, also late ones, each laid in where its turn and hand belong."""

    def __init__(self, plan):
        self.drawn = plan
        self.laid = []
        self.reached = [first_stand(plan)]

    def tell(self, turn, hand, deed):
        """Lay an entry in; its number."""
        if len(self.laid) >= MOST_ENTRIES:
            raise TooMany(f"there are {MOST_ENTRIES} entries already")
        at = len([entry for entry in self.laid if (entry[0], entry[1]) <= (turn, hand)])
        # Done apart from those behind it: where it is itself refused, that is no Clash.
        stand = deed.done(self.drawn, self.reached[at])
        self.redo([*self.laid[:at], (turn, hand, deed)], [*self.reached[:at + 1], stand], at)
        return at

    def strike(self, at):
        """Take an entry out of the book; the entry."""
        if not 0 <= at < len(self.laid):
            raise NoEntry(at)
        struck = self.laid[at]
        self.redo(self.laid[:at], self.reached[:at + 1], at + 1)
        return struck

    def redo(self, ahead, stands, number):
        """Do the entries from that number on anew behind those ahead, whose stands are told."""
        behind = self.laid[number:]
        redone = replayed_from(self.drawn, stands[-1], [entry[2] for entry in behind], number)
        # Only now, when none of them has been refused.
        self.laid = ahead + behind
        self.reached = stands[:-1] + redone

    def entries(self):
        """The entries, in their order."""
        return list(self.laid)

    def stands(self):
        """The first stand and, for each entry, the one behind it."""
        return list(self.reached)

    def stand(self):
        """The last stand."""
        return self.reached[-1]

    def stand_at(self, turn):
        """The stand behind all entries whose turns are not greater."""
        return self.reached[len([entry for entry in self.laid if entry[0] <= turn])]

    def plan(self):
        """The plan of the book."""
        return self.drawn
