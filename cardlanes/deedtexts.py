"""A deed read from its text; each deed writes its own."""

from cardlanes.deeds import Add, Back, Block, Bound, Clear, Let, Pull, Wait
from cardlanes.errors import NoText
from cardlanes.plans import is_name
from cardlanes.plantexts import read_bound


def read_deed(text):
    """The deed whose text it is."""
    if not isinstance(text, str):
        raise NoText(0)
    match text.split(" "):
        case ["add", card, kind]:
            return Add(written_name(card), written_name(kind))
        case ["pull", card]:
            return Pull(written_name(card))
        case ["back", card]:
            return Back(written_name(card))
        case ["block", card]:
            return Block(written_name(card))
        case ["clear", card]:
            return Clear(written_name(card))
        case ["wait", card, lane, other]:
            return Wait(written_name(card), written_wait_lane(lane), written_name(other))
        case ["let", card, other]:
            return Let(written_name(card), written_name(other))
        case ["bound", lane, figures]:
            return Bound(written_name(lane), written_bound(figures))
    raise NoText(0)


def written_name(word):
    """The name that the word is."""
    if not is_name(word):
        raise NoText(0)
    return word


def written_wait_lane(word):
    """The name of a lane that the word is; a wait may have out in its place."""
    if word == "out":
        return word
    return written_name(word)


def written_bound(word):
    """The bound that the word writes."""
    bound = read_bound(word)
    if bound is None:
        raise NoText(0)
    return bound
