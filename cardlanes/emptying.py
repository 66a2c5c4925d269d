"""Whether pulls alone can empty a stand."""

from cardlanes.errors import LaneError
from cardlanes.plans import way_of
from cardlanes.pulls import pulled
from cardlanes.stands import is_out, lane_of
from cardlanes.waits import ring_of


def can_go(plan, stand):
    """The cards that can be pulled, rising as the cards do."""
    return [card[0] for card in stand[1] if can_be_pulled(plan, stand, card[0])]


def can_be_pulled(plan, stand, card):
    """Whether the card can be pulled."""
    try:
        pulled(plan, stand, card)
    except LaneError:
        return False
    return True


def is_empty(plan, stand):
    """Whether all cards are out."""
    return all(is_out(plan, stand, card[0]) for card in stand[1])


def drained(plan, stand):
    """The cards that are pulled, always the one furthest on, till none can be; and the stand that comes."""
    row = []
    going = can_go(plan, stand)
    while going:
        card = furthest(plan, stand, going)
        stand = pulled(plan, stand, card)
        row.append(card)
        going = can_go(plan, stand)
    return (row, stand)


def furthest(plan, stand, cards):
    """The card with the greatest lane, of several the first one."""
    lanes = [lane_of(plan, stand, card) for card in cards]
    return cards[lanes.index(max(lanes))]


def places_of(stand):
    """The places of the cards, in their order."""
    return tuple(card[2] for card in stand[1])


def emptied(plan, stand, most):
    """What shows that the stand can be emptied or that it can't; or that more stands come than most."""
    blocked = [card[0] for card in stand[1] if card[3]]
    if blocked:
        return ("blocked", blocked[0])
    ring = ring_of(plan, stand)
    if ring is not None:
        return ("ring", ring)
    row, last = drained(plan, stand)
    if is_empty(plan, last):
        return ("row", row)
    return searched(plan, stand, most)


def searched(plan, stand, most):
    """What all stands to which pulls lead tell, where they aren't more than most."""
    rows = rows_to_places(plan, stand, most)
    if len(rows) > most:
        return ("open",)
    empty = tuple(len(way_of(plan, card[1])) + 1 for card in stand[1])
    if empty in rows:
        return ("row", rows[empty])
    return ("shut", sorted(rows))


def rows_to_places(plan, stand, most):
    """The places to which pulls lead, each with a row that does so; not all, where they are more than most."""
    rows = {places_of(stand): []}
    stands = [stand]
    while stands and len(rows) <= most:
        here = stands.pop()
        for card in can_go(plan, here):
            there = pulled(plan, here, card)
            if places_of(there) not in rows:
                rows[places_of(there)] = [*rows[places_of(here)], card]
                stands.append(there)
    return rows
