"""Where pulls lead, told once more: every stand to which they do, found from the words of [8]."""

from stand_samples import is_stand_by_the_words, lane_by_the_words, rings_by_the_words


def steps(plan, stand):
    """For each card that can be pulled its name and the stand that comes, by the words of [8]."""
    bounds, cards, waits = stand
    lanes = {card[0]: lane_by_the_words(plan, card) for card in cards}
    out = len(plan[0])
    ways = {name: dict(zip(way, kind_bounds)) for name, way, kind_bounds in plan[1]}
    kinds = {card[0]: card[1] for card in cards}
    for at, (name, kind, place, blocked) in enumerate(cards):
        if lanes[name] == out or blocked:
            continue
        lane = lane_by_the_words(plan, (name, kind, place + 1, False))
        if any(card == name and barred <= lane and lanes[other] != out for card, barred, other in waits):
            continue
        if lane != out:
            there = [other for other in lanes if lanes[other] == lane]
            if len(there) >= bounds[lane] or [kinds[other] for other in there].count(kind) >= ways[kind][lane]:
                continue
        yield name, (bounds, cards[:at] + ((name, kind, place + 1, blocked),) + cards[at + 1:], waits)


def all_out(plan, stand):
    return all(lane_by_the_words(plan, card) == len(plan[0]) for card in stand[1])


def all_stands(plan, stand, most=2000):
    """All stands to which pulls lead, by their places; None where they are more than most."""
    found = {tuple(card[2] for card in stand[1]): stand}
    left = [stand]
    while left:
        for name, there in steps(plan, left.pop(0)):
            places = tuple(card[2] for card in there[1])
            if places not in found:
                found[places] = there
                left.append(there)
                if len(found) > most:
                    return None
    return found


def drained_by_the_words(plan, stand):
    """[21]."""
    row = []
    while True:
        found = dict(steps(plan, stand))
        if not found:
            return row, stand
        lanes = {card[0]: lane_by_the_words(plan, card) for card in stand[1]}
        card = sorted(found, key=lambda name: (-lanes[name], name))[0]
        row.append(card)
        stand = found[card]


def row_empties(plan, stand, row):
    """Whether the row is a list of cards which, pulled one after another, leave the stand empty."""
    if type(row) is not list:
        return False
    for name in row:
        found = dict(steps(plan, stand))
        if type(name) is not str or name not in found:
            return False
        stand = found[name]
    return all_out(plan, stand)


def word_of(plan, stand, most):
    """[22]: the word that is to be told, in its order."""
    if any(card[3] for card in stand[1]):
        return "blocked"
    if rings_by_the_words(plan, stand):
        return "ring"
    if all_out(plan, drained_by_the_words(plan, stand)[1]):
        return "row"
    stands = all_stands(plan, stand, most)
    if stands is None:
        return "open"
    return "row" if any(all_out(plan, each) for each in stands.values()) else "shut"


def shuts_by_the_words(plan, stand, thing):
    """[23], of a list."""
    if type(thing) is not list:
        return False
    bounds, cards, waits = stand
    ways = {name: way for name, way, kind_bounds in plan[1]}
    for places in thing:
        if type(places) is not tuple or len(places) != len(cards):
            return False
        for place, card in zip(places, cards):
            if type(place) is not int or place not in range(len(ways[card[1]]) + 2):
                return False
    if tuple(card[2] for card in cards) not in thing:
        return False
    for places in thing:
        placed = tuple((name, kind, place, blocked) for (name, kind, old, blocked), place in zip(cards, places))
        here = (bounds, placed, waits)
        if not is_stand_by_the_words(plan, here) or all_out(plan, here):
            return False
        for name, there in steps(plan, here):
            if tuple(card[2] for card in there[1]) not in thing:
                return False
    return True
