"""What deeds do and how they are refused, told once more by a table of cards instead of stands; and their texts."""

import re

from cardlanes.deeds import Add, Back, Block, Bound, Clear, Let, Pull, Wait

NAME = "(?!(?:out|yard)(?![a-z]))[a-z]{1,8}"
DEED = re.compile(
    f"add {NAME} {NAME}|(pull|back|block|clear) {NAME}|wait {NAME} ({NAME}|out) {NAME}|let {NAME} {NAME}"
    f"|bound {NAME} [1-9][0-9]?"
)


def deed_of_text(text):
    """The deed whose text it is, or None."""
    if not DEED.fullmatch(text):
        return None
    word, *told = text.split(" ")
    if word == "bound":
        return Bound(told[0], int(told[1]))
    made = {"add": Add, "pull": Pull, "back": Back, "block": Block, "clear": Clear, "wait": Wait, "let": Let}[word]
    return made(*told)


class Board:
    """Cards, by name, with the rows of the places that they go through; lanes by name, out as the last one."""

    def __init__(self, plan):
        self.lanes = [name for name, bound in plan[0]]
        self.bounds = dict(plan[0])
        self.rows = {}
        self.most = {}
        for kind, way, bounds in plan[1]:
            self.rows[kind] = ["yard", *(self.lanes[number] for number in way), "out"]
            for number, bound in zip(way, bounds):
                self.most[self.lanes[number], kind] = bound
        self.kinds = {}
        self.places = {}
        self.blocked = set()
        self.waits = set()

    def where(self, card):
        return self.rows[self.kinds[card]][self.places[card]]

    def number(self, lane):
        return ["yard", *self.lanes, "out"].index(lane) - 1

    def cards(self, lane):
        return [card for card in self.kinds if self.where(card) == lane]

    def stand(self):
        """The stand as a tuple."""
        cards = [(card, self.kinds[card], self.places[card], card in self.blocked) for card in self.kinds]
        waits = [(card, self.number(lane), other) for card, lane, other in self.waits]
        return (tuple(self.bounds[lane] for lane in self.lanes), tuple(sorted(cards)), tuple(sorted(waits)))

    def do(self, deed):
        """The deed done; or what it is refused with, the name of the class and the fields."""
        refusals = list(getattr(self, type(deed).__name__.lower())(deed))
        return refusals[0] if refusals else None

    def no_card(self, *cards):
        for card in cards:
            if card not in self.kinds:
                yield "NoCard", {"card": card}

    def full(self, card, lane):
        kind = self.kinds[card]
        if lane in self.lanes:
            if len(self.cards(lane)) >= self.bounds[lane]:
                yield "Full", {"lane": lane, "bound": self.bounds[lane]}
            if [self.kinds[other] for other in self.cards(lane)].count(kind) >= self.most[lane, kind]:
                yield "KindFull", {"lane": lane, "kind": kind, "bound": self.most[lane, kind]}

    def add(self, deed):
        if deed.kind not in self.rows:
            yield "NoKind", {"kind": deed.kind}
        elif deed.card in self.kinds:
            yield "Twice", {"card": deed.card}
        elif len(self.kinds) == 30:
            yield "TooMany", {}
        else:
            self.kinds[deed.card] = deed.kind
            self.places[deed.card] = 0

    def moved(self, card, step):
        refusals = list(self.no_card(card)) or list(self.bars(card, step))
        if not refusals:
            self.places[card] += step
        return refusals

    def bars(self, card, step):
        """All that bars the card from that step, in the order of the document."""
        if self.where(card) == "out":
            yield "Out", {"card": card}
            return
        if card in self.blocked:
            yield "Blocked", {"card": card}
        if step < 0 and self.where(card) == "yard":
            yield "InYard", {"card": card}
            return
        lane = self.rows[self.kinds[card]][self.places[card] + step]
        if step > 0:
            for waiting, barred, other in self.stand()[2]:
                if waiting == card and barred <= self.number(lane) and self.where(other) != "out":
                    yield "Waits", {"card": card, "other": other}
        yield from self.full(card, lane)

    def pull(self, deed):
        return self.moved(deed.card, 1)

    def back(self, deed):
        return self.moved(deed.card, -1)

    def block(self, deed):
        refusals = list(self.no_card(deed.card))
        if refusals:
            return refusals
        if self.where(deed.card) == "out":
            return [("Out", {"card": deed.card})]
        if deed.card in self.blocked:
            return [("Blocked", {"card": deed.card})]
        self.blocked.add(deed.card)
        return []

    def clear(self, deed):
        refusals = list(self.no_card(deed.card))
        if not refusals and deed.card not in self.blocked:
            refusals = [("Free", {"card": deed.card})]
        self.blocked.discard(deed.card)
        return refusals

    def wait(self, deed):
        refusals = list(self.no_card(deed.card, deed.other))
        if refusals:
            return refusals
        if deed.lane not in self.lanes and deed.lane != "out":
            return [("NoLane", {"lane": deed.lane})]
        if self.number(self.where(deed.card)) >= self.number(deed.lane) and self.where(deed.other) != "out":
            return [("Past", {"card": deed.card})]
        if len(self.waits | {(deed.card, deed.lane, deed.other)}) == 61:
            return [("TooMany", {})]
        self.waits.add((deed.card, deed.lane, deed.other))
        return []

    def let(self, deed):
        refusals = list(self.no_card(deed.card, deed.other))
        found = {wait for wait in self.waits if wait[0] == deed.card and wait[2] == deed.other}
        if not refusals and not found:
            refusals = [("NoWait", {"card": deed.card})]
        if not refusals:
            self.waits -= found
        return refusals

    def bound(self, deed):
        if deed.lane not in self.lanes:
            return [("NoLane", {"lane": deed.lane})]
        many = len(self.cards(deed.lane))
        if many > deed.bound:
            return [("Low", {"lane": deed.lane, "many": many})]
        self.bounds[deed.lane] = deed.bound
        return []


def any_deed(chance, plan, names, weights):
    """Some deed, of cards of these names."""
    card = chance.choice(names)
    other = chance.choice(names)
    lanes = [name for name, bound in plan[0]] + ["nolane", "yard"]
    kinds = [kind[0] for kind in plan[1]] * 3 + ["nokind"]
    word = chance.choices(list(weights), list(weights.values()))[0]
    return {
        "add": lambda: Add(card, chance.choice(kinds)),
        "pull": lambda: Pull(card),
        "back": lambda: Back(card),
        "block": lambda: Block(card),
        "clear": lambda: Clear(card),
        "wait": lambda: Wait(card, chance.choice(lanes + ["out"] * 2), other),
        "let": lambda: Let(card, other),
        "bound": lambda: Bound(chance.choice(lanes + ["out"]), chance.choice((1, 1, 2, 3, 4, 99))),
    }[word]()
