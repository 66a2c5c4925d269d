"""The refusals: one class for each reason, all of them directly under LaneError."""


class LaneError(ValueError):
    """Any refusal."""


class NoText(LaneError):
    """A text is not written as it must be; row is where that shows first."""

    def __init__(self, row):
        super().__init__(f"not written as it must be at row {row}")
        self.row = row


class NoCard(LaneError):
    """There is no card of that name."""

    def __init__(self, card):
        super().__init__(f"there is no card {card}")
        self.card = card


class NoKind(LaneError):
    """There is no kind of that name."""

    def __init__(self, kind):
        super().__init__(f"there is no kind {kind}")
        self.kind = kind


class NoLane(LaneError):
    """There is no such lane; lane is what was told in its place."""

    def __init__(self, lane):
        super().__init__(f"there is no lane {lane}")
        self.lane = lane


class NoWait(LaneError):
    """The card does not wait for the other one."""

    def __init__(self, card):
        super().__init__(f"card {card} has no such wait")
        self.card = card


class NoEntry(LaneError):
    """The book has no entry of that number."""

    def __init__(self, at):
        super().__init__(f"there is no entry {at}")
        self.at = at


class Twice(LaneError):
    """There is a card of that name already."""

    def __init__(self, card):
        super().__init__(f"there is a card {card} already")
        self.card = card


class Out(LaneError):
    """The card is out."""

    def __init__(self, card):
        super().__init__(f"card {card} is out")
        self.card = card


class Blocked(LaneError):
    """The card is blocked."""

    def __init__(self, card):
        super().__init__(f"card {card} is blocked")
        self.card = card


class Free(LaneError):
    """The card is not blocked."""

    def __init__(self, card):
        super().__init__(f"card {card} is not blocked")
        self.card = card


class InYard(LaneError):
    """The card is in the yard."""

    def __init__(self, card):
        super().__init__(f"card {card} is in the yard")
        self.card = card


class Past(LaneError):
    """The card is already where the wait would keep it from."""

    def __init__(self, card):
        super().__init__(f"card {card} is past the lane of the wait")
        self.card = card


class Waits(LaneError):
    """A wait for the other card bars the card."""

    def __init__(self, card, other):
        super().__init__(f"card {card} waits for card {other}")
        self.card = card
        self.other = other


class Full(LaneError):
    """The lane, told by its name, has as many cards as its bound."""

    def __init__(self, lane, bound):
        super().__init__(f"lane {lane} has its bound of {bound}")
        self.lane = lane
        self.bound = bound


class KindFull(LaneError):
    """The lane has as many cards of the kind as the kind's bound there."""

    def __init__(self, lane, kind, bound):
        super().__init__(f"lane {lane} has its bound of {bound} of kind {kind}")
        self.lane = lane
        self.kind = kind
        self.bound = bound


class Low(LaneError):
    """The bound is below how many cards the lane has."""

    def __init__(self, lane, many):
        super().__init__(f"lane {lane} has {many} cards, more than the bound")
        self.lane = lane
        self.many = many


class Clash(LaneError):
    """The deed of the entry at that number cannot be done any more; refusal is the error why."""

    def __init__(self, at, refusal):
        super().__init__(f"entry {at} cannot be done any more")
        self.at = at
        self.refusal = refusal


class TooMany(LaneError):
    """There would be one more than there may be; made with a text."""


class NoRow(LaneError):
    """The desk knows no such row; made with a text."""
