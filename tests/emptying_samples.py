"""Stands of a plan whose lanes have room for one card each, and stands of any plan."""

import random

from stand_samples import STAND_PLANS, is_stand_by_the_words, lane_by_the_words

TIGHT = ((("la", 1), ("lb", 1)), (("all", (0, 1), (1, 1)), ("end", (1,), (1,)), ("ka", (0,), (1,))))


def tight(*cards, waits=(), bounds=(1, 1)):
    """A stand of TIGHT; cards as (name, kind, place), or with True behind where they are blocked."""
    cards = tuple((*card[:3], len(card) == 4) for card in sorted(cards))
    return (bounds, cards, tuple(sorted(waits)))


# a may not come to lb till b is out, but goes first when drained, and bars b's way then.
BARRED = tight(("a", "all", 0), ("b", "all", 0), waits=[("a", 1, "b")])
STUCK = tight(("a", "all", 1), ("b", "all", 0), waits=[("a", 1, "b")])
# Nothing of it is to be emptied, but c can go on as far as it has a way.
SHUT = tight(("a", "all", 1), ("b", "all", 0), ("c", "end", 0), waits=[("a", 1, "b")])
RING = tight(("a", "all", 1), ("b", "all", 0), ("c", "end", 0), waits=[("a", 1, "b"), ("b", 2, "a")])


def any_stand(chance, plan, most_cards=5, waits=4, blocked=0.0, rings=False):
    """Some kept stand with bounds that are just reached or nearly so; waits lead in rings only where that is asked for."""
    while True:
        names = chance.sample("abcdefgh", chance.randrange(most_cards + 1))
        ways = {name: way for name, way, kind_bounds in plan[1]}
        cards = []
        for name in names:
            kind = chance.choice(list(ways))
            place = chance.choice((0, 0, chance.randrange(len(ways[kind]) + 2)))
            cards.append((name, kind, place, place <= len(ways[kind]) and chance.random() < blocked))
        lanes = {card[0]: lane_by_the_words(plan, card) for card in cards}
        bounds = []
        for number in range(len(plan[0])):
            bounds.append(max(1, list(lanes.values()).count(number) + chance.choice((0, 0, 1))))
        found = set()
        for each in range(chance.randrange(waits + 1) if cards else 0):
            card, other = chance.choice(names), chance.choice(names)
            if (rings or names.index(card) < names.index(other)) and lanes[card] < len(plan[0]):
                found.add((card, chance.randrange(lanes[card] + 1, len(plan[0]) + 1), other))
        stand = (tuple(bounds), tuple(sorted(cards)), tuple(sorted(found)))
        if is_stand_by_the_words(plan, stand):
            return stand


def any_stands(many, seed, **told):
    """So many stands of each plan, some with blocked cards and rings."""
    chance = random.Random(seed)
    for plan in (TIGHT, *STAND_PLANS):
        for each in range(many):
            yield plan, any_stand(chance, plan, **(told or {"blocked": 0.1, "rings": chance.random() < 0.2}))
