"""The desk: it is told rows, and answers each with a text."""

from cardlanes.answers import (
    book_answer, empty_answer, lane_answer, mean_answer, stay_answer, sum_answer, visits_answer, where_answer,
)
from cardlanes.books import Book
from cardlanes.deedtexts import read_deed
from cardlanes.errors import NoRow
from cardlanes.plans import is_name
from cardlanes.plantexts import FIGURES, read_plan

MOST_FIGURES = 10
GREATEST_NUMBER = 10 ** 10 - 1
LAST_TURN = 10 ** 9
LEAST_EDGE = -(10 ** 9)
GREATEST_EDGE = 2 * 10 ** 9
GREATEST_MOST = 200


class Desk:
    """A book of a plan that is asked by rows of words."""

    def __init__(self, text):
        self.book = Book(read_plan(text))

    def say(self, row):
        """The answer to the row."""
        if not isinstance(row, str):
            raise NoRow("a row is a text")
        book = self.book
        match row.split(" "):
            case ["tell", turn, hand, *words] if words:
                return told_entry(book, number_of(turn, 0, LAST_TURN), name_of(hand), " ".join(words))
            case ["strike", number]:
                return book.strike(number_of(number, 0, GREATEST_NUMBER))[2].written()
            case ["book"]:
                return book_answer(book)
            case ["where", card, turn]:
                return where_answer(book, name_of(card), number_of(turn, 0, LAST_TURN))
            case ["lane", lane, turn]:
                return lane_answer(book, name_of(lane), number_of(turn, 0, LAST_TURN))
            case ["sum", lane, start, end]:
                return sum_answer(book, name_of(lane), edge_of(start), edge_of(end))
            case ["stay", card, lane, start, end]:
                return stay_answer(book, name_of(card), name_of(lane), edge_of(start), edge_of(end))
            case ["mean", lane, start, end]:
                return mean_answer(book, name_of(lane), edge_of(start), edge_of(end))
            case ["visits", card]:
                return visits_answer(book, name_of(card))
            case ["empty", most]:
                return empty_answer(book, number_of(most, 1, GREATEST_MOST))
        raise NoRow("there is no such row")


def told_entry(book, turn, hand, text):
    """The number of the entry that is told, its deed by a text."""
    return str(book.tell(turn, hand, read_deed(text)))


def name_of(word):
    """The name that the word is."""
    if not is_name(word):
        raise NoRow("a name is not written as it must be")
    return word


def edge_of(word):
    """The start or the end of turns that the word writes, perhaps below 0."""
    if word.startswith("-"):
        return -number_of(word[1:], 1, -LEAST_EDGE)
    return number_of(word, 0, GREATEST_EDGE)


def number_of(word, least, greatest):
    """The number from the least to the greatest that the word writes by figures, without a nought ahead."""
    if not 1 <= len(word) <= MOST_FIGURES or not all(sign in FIGURES for sign in word):
        raise NoRow("a number is not written by figures")
    if word[0] == "0" and word != "0":
        raise NoRow("a number has a nought ahead")
    number = int(word)
    if not least <= number <= greatest:
        raise NoRow("a number is beyond its bounds")
    return number
