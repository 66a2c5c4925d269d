"""Deeds: each can be done in a stand, and be written as a text."""

from cardlanes.errors import Blocked, Free, Low, Out, TooMany, Twice
from cardlanes.plans import lane_number, way_of
from cardlanes.pulls import pulled, put_back
from cardlanes.stands import MOST_CARDS, card_of, cards_in, is_out, with_card
from cardlanes.waits import with_wait, without_waits


class Deed:
    """The base of all deeds; none is made of it itself."""

    def done(self, plan, stand):
        """The stand that comes when the deed is done in the stand."""
        raise NotImplementedError("each deed is done in its own way")

    def written(self):
        """The deed's text."""
        raise NotImplementedError("each deed is written in its own way")


class Add(Deed):
    """A new card comes into the yard."""

    def __init__(self, card, kind):
        self.card = card
        self.kind = kind

    def done(self, plan, stand):
        """The stand with the card in the yard, not blocked."""
        # Asked only for its refusal of a kind that isn't there.
        way_of(plan, self.kind)
        bounds, cards, waits = stand
        if self.card in [card[0] for card in cards]:
            raise Twice(self.card)
        if len(cards) >= MOST_CARDS:
            raise TooMany(f"there are {MOST_CARDS} cards already")
        return (bounds, tuple(sorted((*cards, (self.card, self.kind, 0, False)))), waits)

    def written(self):
        """The deed's text."""
        return f"add {self.card} {self.kind}"


class Pull(Deed):
    """A card is pulled."""

    def __init__(self, card):
        self.card = card

    def done(self, plan, stand):
        """The stand with the card one place further on."""
        return pulled(plan, stand, self.card)

    def written(self):
        """The deed's text."""
        return f"pull {self.card}"


class Back(Deed):
    """A card is put back."""

    def __init__(self, card):
        self.card = card

    def done(self, plan, stand):
        """The stand with the card one place further back."""
        return put_back(plan, stand, self.card)

    def written(self):
        """The deed's text."""
        return f"back {self.card}"


class Block(Deed):
    """A card is blocked."""

    def __init__(self, card):
        self.card = card

    def done(self, plan, stand):
        """The stand with the card blocked."""
        name, kind, place, blocked = card_of(stand, self.card)
        if is_out(plan, stand, name):
            raise Out(self.card)
        if blocked:
            raise Blocked(self.card)
        return with_card(stand, (name, kind, place, True))

    def written(self):
        """The deed's text."""
        return f"block {self.card}"


class Clear(Deed):
    """A card is blocked no more."""

    def __init__(self, card):
        self.card = card

    def done(self, plan, stand):
        """The stand with the card not blocked."""
        name, kind, place, blocked = card_of(stand, self.card)
        if not blocked:
            raise Free(self.card)
        return with_card(stand, (name, kind, place, False))

    def written(self):
        """The deed's text."""
        return f"clear {self.card}"


class Wait(Deed):
    """A card has to wait, ahead of a lane told by its name or of `out`, till another card is out."""

    def __init__(self, card, lane, other):
        self.card = card
        self.lane = lane
        self.other = other

    def done(self, plan, stand):
        """The stand with this wait."""
        # with_wait refuses these ahead of the lane, so they must go ahead of the look for its name too.
        card_of(stand, self.card)
        card_of(stand, self.other)
        return with_wait(plan, stand, self.card, wait_lane(plan, self.lane), self.other)

    def written(self):
        """The deed's text."""
        return f"wait {self.card} {self.lane} {self.other}"


class Let(Deed):
    """A card waits for another one no more."""

    def __init__(self, card, other):
        self.card = card
        self.other = other

    def done(self, plan, stand):
        """The stand without the waits of the card for the other one."""
        return without_waits(stand, self.card, self.other)

    def written(self):
        """The deed's text."""
        return f"let {self.card} {self.other}"


class Bound(Deed):
    """A lane gets another bound."""

    def __init__(self, lane, bound):
        self.lane = lane
        self.bound = bound

    def done(self, plan, stand):
        """The stand in which the lane has this bound."""
        lane = lane_number(plan, self.lane)
        many = len(cards_in(plan, stand, lane))
        if self.bound < many:
            raise Low(self.lane, many)
        bounds, cards, waits = stand
        return ((*bounds[:lane], self.bound, *bounds[lane + 1:]), cards, waits)

    def written(self):
        """The deed's text."""
        return f"bound {self.lane} {self.bound}"


def wait_lane(plan, name):
    """The number at which a wait has the lane of that name, or `out`."""
    if name == "out":
        return len(plan[0])
    return lane_number(plan, name)
