"""What a book comes to over turns: the cards of a lane and their mean, and the stays and visits of a card."""

from cardlanes.stands import card_of, cards_in


def cards_over(book, lane, start, end):
    """How many cards are in the lane at each of the turns, all together."""
    return sum([len(cards) * turns for cards, turns in stretches(book, lane, start, end)])


def stay(book, card, lane, start, end):
    """At how many of the turns the card is in the lane."""
    card_of(book.stand(), card)
    return sum([turns for cards, turns in stretches(book, lane, start, end) if card in cards])


def visits(book, card):
    """For each time that the card came into a lane the lane, the turn then, and the turn at which it left, or None."""
    card_of(book.stand(), card)
    lanes = [lane_with(book.plan(), stand, card) for stand in book.stands()]
    found = []
    for entry, ahead, lane in zip(book.entries(), lanes, lanes[1:]):
        if lane == ahead:
            continue
        if ahead is not None:
            found[-1] = (ahead, found[-1][1], entry[0])
        if lane is not None:
            found.append((lane, entry[0], None))
    return found


def mean(book, lane, start, end):
    """The cards of the lane at one of the turns, on the average, as a fraction; None where there are no turns."""
    if end <= start:
        return None
    cards = cards_over(book, lane, start, end)
    divisor = greatest_divisor(cards, end - start)
    return (cards // divisor, (end - start) // divisor)


def stretches(book, lane, start, end):
    """For each stand of the book the cards in the lane, and at how many of the turns it stands."""
    turns = [entry[0] for entry in book.entries()]
    begins = [start] + [max(start, turn) for turn in turns]
    stops = [min(end, turn) for turn in turns] + [end]
    lanes = [cards_in(book.plan(), stand, lane) for stand in book.stands()]
    return [(cards, max(0, stop - begin)) for cards, begin, stop in zip(lanes, begins, stops)]


def lane_with(plan, stand, card):
    """The number of the lane in which the card is; None where it is in none."""
    for lane in range(len(plan[0])):
        if card in cards_in(plan, stand, lane):
            return lane
    return None


def greatest_divisor(number, other):
    """The greatest number that divides both, which are not both 0."""
    while other:
        number, other = other, number % other
    return number
