"""A card pulled on by one place, and put back by one."""

from cardlanes.errors import Blocked, Full, InYard, KindFull, Out, Waits
from cardlanes.plans import kind_bound
from cardlanes.stands import card_of, cards_in, is_out, lane_at, many_of, with_card


def pulled(plan, stand, card):
    """The stand in which the card is one place further on."""
    name, kind, place, blocked = card_that_can_move(plan, stand, card)
    lane = lane_at(plan, kind, place + 1)
    refuse_if_it_waits(plan, stand, card, lane)
    refuse_if_full(plan, stand, lane, kind)
    return with_card(stand, (name, kind, place + 1, blocked))


def put_back(plan, stand, card):
    """The stand in which the card is one place further back."""
    name, kind, place, blocked = card_that_can_move(plan, stand, card)
    if place == 0:
        raise InYard(card)
    refuse_if_full(plan, stand, lane_at(plan, kind, place - 1), kind)
    return with_card(stand, (name, kind, place - 1, blocked))


def card_that_can_move(plan, stand, card):
    """The tuple of the card, unless it is out or blocked."""
    told = card_of(stand, card)
    if is_out(plan, stand, card):
        raise Out(card)
    if told[3]:
        raise Blocked(card)
    return told


def refuse_if_it_waits(plan, stand, card, lane):
    """Refuse that the card comes to the lane where a wait keeps it from there."""
    for waiting, barred, other in stand[2]:
        if waiting == card and barred <= lane and not is_out(plan, stand, other):
            raise Waits(card, other)


def refuse_if_full(plan, stand, lane, kind):
    """Refuse that one more card of the kind comes to the lane where a bound is reached; outside there are none."""
    if not 0 <= lane < len(plan[0]):
        return
    name = plan[0][lane][0]
    bound = stand[0][lane]
    if len(cards_in(plan, stand, lane)) >= bound:
        raise Full(name, bound)
    most = kind_bound(plan, kind, lane)
    if many_of(plan, stand, lane, kind) >= most:
        raise KindFull(name, kind, most)
