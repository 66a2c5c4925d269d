"""What shows that a stand can be emptied, or that it can't, looked at."""

from cardlanes.emptying import can_go, is_empty, places_of
from cardlanes.errors import LaneError
from cardlanes.plans import is_tuple, is_whole, way_of
from cardlanes.pulls import pulled
from cardlanes.stands import is_stand
from cardlanes.waits import is_ring


def shows_row(plan, stand, thing):
    """Whether anything is a row of pulls that empties the stand."""
    if not isinstance(thing, list):
        return False
    for card in thing:
        try:
            stand = pulled(plan, stand, card)
        except LaneError:
            return False
    return is_empty(plan, stand)


def shows_ring(plan, stand, thing):
    """Whether anything is a ring, so that its cards cannot come out."""
    return is_ring(plan, stand, thing)


def shows_shut(plan, stand, thing):
    """Whether anything is a list of places, none of them empty, from which no pull leads away."""
    if not isinstance(thing, list) or not all(are_places(plan, stand, places) for places in thing):
        return False
    if places_of(stand) not in thing:
        return False
    return all(stays_within(plan, with_places(stand, places), thing) for places in thing)


def are_places(plan, stand, thing):
    """Whether anything is a tuple with a place for each card."""
    cards = stand[1]
    if not is_tuple(thing, len(cards), len(cards)):
        return False
    return all(is_place(plan, card[1], place) for card, place in zip(cards, thing))


def is_place(plan, kind, thing):
    """Whether anything is a place of a card of the kind."""
    return is_whole(thing) and 0 <= thing <= len(way_of(plan, kind)) + 1


def with_places(stand, places):
    """The stand with its cards so placed."""
    bounds, cards, waits = stand
    moved = tuple((name, kind, place, blocked) for (name, kind, old, blocked), place in zip(cards, places))
    return (bounds, moved, waits)


def stays_within(plan, stand, listed):
    """Whether the stand is kept, not empty, and each pull in it leads to places that are listed."""
    if not is_stand(plan, stand) or is_empty(plan, stand):
        return False
    return all(places_of(pulled(plan, stand, card)) in listed for card in can_go(plan, stand))
