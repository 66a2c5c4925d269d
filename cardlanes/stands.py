"""What stands are, which of them are kept, and what a stand tells of its cards."""

from cardlanes.errors import NoCard
from cardlanes.plans import are_bounds, is_name, is_tuple, is_whole, way_of

MOST_CARDS = 30
MOST_WAITS = 60
YARD = -1


def first_stand(plan):
    """The stand ahead of all deeds."""
    return (tuple(bound for name, bound in plan[0]), (), ())


def is_stand(plan, thing):
    """Whether anything is a stand of the plan, and kept."""
    if not is_tuple(thing, 3, 3):
        return False
    bounds, cards, waits = thing
    if not are_bounds(bounds, len(plan[0])) or not are_cards(plan, cards) or not are_waits(plan, cards, waits):
        return False
    return keeps_bounds(plan, thing) and keeps_kinds(plan, thing) and keeps_waits(plan, thing)


def card_of(stand, card):
    """The tuple of the card of that name."""
    for told in stand[1]:
        if told[0] == card:
            return told
    raise NoCard(card)


def lane_of(plan, stand, card):
    """The lane of the card, as lane_at numbers it."""
    name, kind, place, blocked = card_of(stand, card)
    return lane_at(plan, kind, place)


def cards_in(plan, stand, lane):
    """The names of the cards whose lane it is, rising as the cards do."""
    return [name for name, kind, place, blocked in stand[1] if lane_at(plan, kind, place) == lane]


def many_of(plan, stand, lane, kind):
    """How many cards of the kind have this lane."""
    return len([card for card in stand[1] if card[1] == kind and lane_at(plan, kind, card[2]) == lane])


def lane_at(plan, kind, place):
    """The lane of a card of the kind at the place: YARD, the number of a lane, or how many lanes there are for out."""
    if place == 0:
        return YARD
    way = way_of(plan, kind)
    if place > len(way):
        return len(plan[0])
    return way[place - 1]


def is_out(plan, stand, card):
    """Whether the card is out."""
    return lane_of(plan, stand, card) == len(plan[0])


def with_card(stand, new):
    """The stand in which the card of that name is the new one."""
    bounds, cards, waits = stand
    return (bounds, tuple(new if card[0] == new[0] else card for card in cards), waits)


def may_wait_at(plan, lane):
    """Whether a card may wait at the lane, a whole number: at a lane, or at out."""
    return 0 <= lane <= len(plan[0])


def holds(plan, stand, wait):
    """Whether the wait's card is where the wait lets it be."""
    card, lane, other = wait
    return lane_of(plan, stand, card) < lane or is_out(plan, stand, other)


def are_cards(plan, thing):
    """Whether anything may be the cards of a stand."""
    if not is_tuple(thing, 0, MOST_CARDS) or not all(is_card(plan, card) for card in thing):
        return False
    return are_rising([card[0] for card in thing])


def is_card(plan, thing):
    """Whether anything may be a card of a stand."""
    if not is_tuple(thing, 4, 4):
        return False
    name, kind, place, blocked = thing
    if not is_name(name) or kind not in [each[0] for each in plan[1]]:
        return False
    last = len(way_of(plan, kind)) + 1
    if not is_whole(place) or not 0 <= place <= last or not isinstance(blocked, bool):
        return False
    return place < last or not blocked


def are_waits(plan, cards, thing):
    """Whether anything may be the waits of a stand of these cards."""
    names = [card[0] for card in cards]
    if not is_tuple(thing, 0, MOST_WAITS) or not all(is_wait(plan, names, wait) for wait in thing):
        return False
    return are_rising(thing)


def is_wait(plan, names, thing):
    """Whether anything may be a wait among the cards of these names."""
    if not is_tuple(thing, 3, 3):
        return False
    card, lane, other = thing
    return card in names and is_whole(lane) and may_wait_at(plan, lane) and other in names


def are_rising(things):
    """Whether each of the things is greater than the one ahead of it."""
    return all(ahead < behind for ahead, behind in zip(things, things[1:]))


def keeps_bounds(plan, stand):
    """Whether no lane has more cards than its bound."""
    return all(len(cards_in(plan, stand, lane)) <= bound for lane, bound in enumerate(stand[0]))


def keeps_kinds(plan, stand):
    """Whether no lane has more cards of a kind than the kind's bound there."""
    for kind, way, bounds in plan[1]:
        for lane, bound in zip(way, bounds):
            if many_of(plan, stand, lane, kind) > bound:
                return False
    return True


def keeps_waits(plan, stand):
    """Whether all waits hold."""
    return all(holds(plan, stand, wait) for wait in stand[2])
