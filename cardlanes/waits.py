"""Waits of a card for another one, and rings of them."""

from cardlanes.errors import NoLane, NoWait, Past, TooMany
from cardlanes.stands import MOST_WAITS, card_of, cards_in, holds, may_wait_at


def with_wait(plan, stand, card, lane, other):
    """The stand with this wait too."""
    card_of(stand, card)
    card_of(stand, other)
    if not may_wait_at(plan, lane):
        raise NoLane(lane)
    bounds, cards, waits = stand
    wait = (card, lane, other)
    if not holds(plan, stand, wait):
        raise Past(card)
    if wait in waits:
        return stand
    if len(waits) >= MOST_WAITS:
        raise TooMany(f"there are {MOST_WAITS} waits already")
    return (bounds, cards, tuple(sorted((*waits, wait))))


def without_waits(stand, card, other):
    """The stand without the waits of the card for the other one."""
    card_of(stand, card)
    card_of(stand, other)
    bounds, cards, waits = stand
    left = tuple(wait for wait in waits if wait[0] != card or wait[2] != other)
    if len(left) == len(waits):
        raise NoWait(card)
    return (bounds, cards, left)


def is_ring(plan, stand, thing):
    """Whether anything is a ring of the stand."""
    if not isinstance(thing, list) or not thing:
        return False
    others = others_of(plan, stand)
    # A list cannot be looked up in a dict, so what may be anything is looked for among its names.
    if not all(name in list(others) for name in thing):
        return False
    if len(set(thing)) < len(thing) or thing[0] != min(thing):
        return False
    return all(behind in others[ahead] for ahead, behind in zip(thing, thing[1:] + thing[:1]))


def ring_of(plan, stand):
    """Some ring of the stand, or None where there is none."""
    others = others_without_ends(plan, stand)
    if not others:
        return None
    row = []
    card = min(others)
    while card not in row:
        row.append(card)
        card = others[card][0]
    ring = row[row.index(card):]
    least = ring.index(min(ring))
    return ring[least:] + ring[:least]


def others_of(plan, stand):
    """For each card that isn't out, the cards that aren't out for which it waits."""
    gone = cards_in(plan, stand, len(plan[0]))
    others = {card[0]: [] for card in stand[1] if card[0] not in gone}
    for card, lane, other in stand[2]:
        if card in others and other in others:
            others[card].append(other)
    return others


def others_without_ends(plan, stand):
    """As others_of, but only of cards, and with such only, from which waits lead on and on."""
    others = others_of(plan, stand)
    many = len(others) + 1
    while len(others) < many:
        many = len(others)
        left = {card: [other for other in others[card] if other in others] for card in others}
        others = {card: left[card] for card in left if left[card]}
    return others
