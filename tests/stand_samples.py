"""Plans and stands that several tests look at, and what stands are, told once more in the plainest way."""

import itertools
import string

from plan_samples import GREATEST, ORDINARY, SMALL

# Ways that begin behind the first lane, end ahead of the last one, and leave lanes out between.
WIDE = (
    (("la", 4), ("lb", 2), ("lc", 3), ("ld", 5)),
    (("all", (0, 1, 2, 3), (3, 2, 2, 4)), ("ends", (0, 3), (2, 3)), ("mid", (1, 2), (1, 3)), ("la", (2,), (1,))),
)

# The plans above have as many kinds as lanes; here there are fewer of them, and there more.
LONG = (
    (("la", 2), ("lb", 1), ("lc", 3), ("ld", 2), ("le", 2)),
    (("all", (0, 1, 2, 3, 4), (2, 1, 2, 2, 1)), ("odd", (1, 3), (1, 2))),
)
BROAD = (
    (("la", 3), ("lb", 2)),
    (("ka", (0,), (2,)), ("kb", (1,), (1,)), ("kc", (0, 1), (3, 2)), ("kd", (0, 1), (1, 1)), ("ke", (1,), (2,))),
)

STAND_PLANS = (SMALL, ORDINARY, GREATEST, WIDE, LONG, BROAD)

# At each place of the first kind's way there is a card; the bounds are others than the plan's.
BUSY = (
    (3, 9, 3, 5),
    (
        ("a", "all", 0, False),
        ("b", "all", 1, True),
        ("c", "all", 2, False),
        ("d", "all", 3, True),
        ("e", "all", 4, False),
        ("f", "all", 5, False),
        ("g", "ends", 0, True),
        ("h", "ends", 2, False),
        ("i", "mid", 1, False),
        ("j", "mid", 3, False),
        ("k", "la", 1, False),
    ),
    (
        ("a", 0, "b"),
        ("a", 0, "f"),
        ("a", 4, "a"),
        ("b", 1, "c"),
        ("c", 3, "b"),
        ("e", 0, "f"),
        ("e", 4, "h"),
        ("f", 4, "j"),
        ("j", 0, "f"),
    ),
)
BUSY_LANES = {"a": -1, "b": 0, "c": 1, "d": 2, "e": 3, "f": 4, "g": -1, "h": 3, "i": 1, "j": 4, "k": 2}

ORDINARY_STAND = (
    (9, 2, 10),
    (("axe", "chore", 0, False), ("bee", "bug", 2, True), ("cat", "doing", 3, False), ("dog", "doing", 2, False)),
    (("axe", 1, "bee"), ("bee", 2, "axe"), ("cat", 3, "cat"), ("dog", 3, "bee")),
)
SMALL_STAND = ((99,), (("bug", "bug", 1, True),), (("bug", 1, "bug"),))

PLANS_AND_STANDS = (
    (SMALL, SMALL_STAND),
    (SMALL, ((1,), (), ())),
    (ORDINARY, ORDINARY_STAND),
    (ORDINARY, ((1, 99, 50), (("a", "bug", 4, False),), ())),
    (WIDE, BUSY),
    (WIDE, (BUSY[0], BUSY[1], ())),
)


def card_names(many):
    """So many names, rising."""
    names = [first + second for first in string.ascii_lowercase for second in string.ascii_lowercase]
    return names[:many]


def plan_of_lanes(many):
    """A plan of so many lanes, with kinds whose bounds are never reached."""
    names = string.ascii_lowercase[:many]
    return (
        tuple((name, 99) for name in names),
        (("all", tuple(range(many)), (99,) * many), ("last", (many - 1,), (99,))),
    )


def stand_of_waits(many):
    """A plan and a stand of it, with so many waits."""
    plan = plan_of_lanes(6)
    names = card_names(4)
    waits = sorted(itertools.product(names, range(7), names))[:many]
    return plan, ((99,) * 6, tuple((name, "all", 0, False) for name in names), tuple(waits))


def is_int(thing):
    return type(thing) is int


def is_card_name(thing):
    if type(thing) is not str or thing in ("out", "yard") or not 1 <= len(thing) <= 8:
        return False
    return set(thing) <= set(string.ascii_lowercase)


def lane_by_the_words(plan, card):
    """[6]: -1 in the yard, how many lanes there are where it is out, else its lane's number."""
    ways = {name: way for name, way, bounds in plan[1]}
    return [-1, *ways[card[1]], len(plan[0])][card[2]]


def is_card_by_the_words(plan, card):
    ways = {name: way for name, way, bounds in plan[1]}
    if type(card) is not tuple or len(card) != 4:
        return False
    if not is_card_name(card[0]) or type(card[1]) is not str or card[1] not in ways:
        return False
    places = list(range(len(ways[card[1]]) + 2))
    if not is_int(card[2]) or card[2] not in places:
        return False
    return card[3] is False or card[3] is True and card[2] != places[-1]


def is_wait_by_the_words(plan, names, wait):
    if type(wait) is not tuple or len(wait) != 3:
        return False
    if type(wait[0]) is not str or wait[0] not in names or type(wait[2]) is not str or wait[2] not in names:
        return False
    return is_int(wait[1]) and wait[1] in range(len(plan[0]) + 1)


def is_stand_by_the_words(plan, thing):
    """[6] and [7], sentence by sentence."""
    if type(thing) is not tuple or len(thing) != 3 or not all(type(part) is tuple for part in thing):
        return False
    bounds, cards, waits = thing
    if len(bounds) != len(plan[0]) or not all(is_int(bound) and bound in range(1, 100) for bound in bounds):
        return False
    if len(cards) > 30 or not all(is_card_by_the_words(plan, card) for card in cards):
        return False
    names = [card[0] for card in cards]
    if sorted(set(names)) != names:
        return False
    if len(waits) > 60 or not all(is_wait_by_the_words(plan, names, wait) for wait in waits):
        return False
    if sorted(set(waits)) != list(waits):
        return False
    lanes = {card[0]: lane_by_the_words(plan, card) for card in cards}
    for number, bound in enumerate(bounds):
        if list(lanes.values()).count(number) > bound:
            return False
    for kind, way, kind_bounds in plan[1]:
        found = [lanes[card[0]] for card in cards if card[1] == kind]
        if any(found.count(number) > bound for number, bound in zip(way, kind_bounds)):
            return False
    return not any(lanes[card] >= lane and lanes[other] != len(plan[0]) for card, lane, other in waits)


def rings_by_the_words(plan, stand):
    """[11]: all rings, found by going on from each card by each of its waits."""
    lanes = {card[0]: lane_by_the_words(plan, card) for card in stand[1]}
    inside = sorted(name for name in lanes if lanes[name] != len(plan[0]))
    pairs = {(card, other) for card, lane, other in stand[2] if card in inside and other in inside}
    found = []

    def go_on(row):
        if (row[-1], row[0]) in pairs:
            found.append(row)
        for name in inside:
            if name > row[0] and name not in row and (row[-1], name) in pairs:
                go_on(row + [name])

    for name in inside:
        go_on([name])
    return found
