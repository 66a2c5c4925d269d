"""What a desk answers, as texts."""

from cardlanes.emptying import emptied
from cardlanes.plans import lane_number
from cardlanes.stands import YARD, cards_in, lane_of
from cardlanes.sums import cards_over, mean, stay, visits

NOTHING = "-"


def book_answer(book):
    """The entries, each in a row of its own."""
    return "\n".join([f"{turn} {hand} {deed.written()}" for turn, hand, deed in book.entries()])


def where_answer(book, card, turn):
    """The name of the card's lane at the turn, or where it is outside."""
    lane = lane_of(book.plan(), book.stand_at(turn), card)
    if lane == YARD:
        return "yard"
    lanes = book.plan()[0]
    return lanes[lane][0] if lane < len(lanes) else "out"


def lane_answer(book, lane, turn):
    """The names of the cards that are in the lane at the turn."""
    plan = book.plan()
    return joined(cards_in(plan, book.stand_at(turn), lane_number(plan, lane)))


def sum_answer(book, lane, start, end):
    """The cards of the lane over the turns."""
    return str(cards_over(book, lane_number(book.plan(), lane), start, end))


def stay_answer(book, card, lane, start, end):
    """The stay of the card in the lane over the turns."""
    return str(stay(book, card, lane_number(book.plan(), lane), start, end))


def mean_answer(book, lane, start, end):
    """The mean of the lane over the turns."""
    fraction = mean(book, lane_number(book.plan(), lane), start, end)
    return NOTHING if fraction is None else f"{fraction[0]}/{fraction[1]}"


def visits_answer(book, card):
    """The visits of the card."""
    return joined([visit_word(book.plan(), visit) for visit in visits(book, card)])


def visit_word(plan, visit):
    """The word of one visit, which has no turn at its end where the card is there still."""
    lane, came, left = visit
    begun = f"{plan[0][lane][0]}:{came}-"
    return begun if left is None else f"{begun}{left}"


def empty_answer(book, most):
    """Whether the last stand can be emptied, and what shows it."""
    word, *told = emptied(book.plan(), book.stand(), most)
    if word == "blocked":
        return f"blocked {told[0]}"
    if word == "shut":
        return f"shut {len(told[0])}"
    if word == "open":
        return word
    return " ".join([word, *told[0]])


def joined(words):
    """The words with a blank between two, and a sign for none."""
    return " ".join(words) if words else NOTHING
