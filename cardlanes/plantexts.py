"""A plan written as a text, and read from one."""

from cardlanes.errors import NoText
from cardlanes.plans import are_kinds, are_lanes

FIGURES = "0123456789"
MOST_FIGURES = 2


def shown_plan(plan):
    """The text of a plan."""
    lanes, kinds = plan
    lane_rows = [f"lane {name} {bound}" for name, bound in lanes]
    kind_rows = [shown_kind(lanes, kind) for kind in kinds]
    return "\n".join(lane_rows + kind_rows)


def shown_kind(lanes, kind):
    """The row of a kind."""
    name, way, bounds = kind
    steps = [f"{lanes[number][0]}:{bound}" for number, bound in zip(way, bounds)]
    return " ".join(["kind", name, *steps])


def read_plan(text):
    """The plan whose text it is."""
    if not isinstance(text, str):
        raise NoText(0)
    rows = text.split("\n")
    lanes = ()
    kinds = ()
    for at, row in enumerate(rows):
        words = row.split(" ")
        if words[0] == "lane" and not kinds:
            lanes = (*lanes, read_lane(words))
        else:
            kinds = (*kinds, read_kind(lanes, words))
        if not begin_a_plan(lanes, kinds):
            raise NoText(at)
    if not kinds:
        raise NoText(len(rows))
    return (lanes, kinds)


def begin_a_plan(lanes, kinds):
    """Whether some plan begins so; more lanes may follow only where there are no kinds yet."""
    return are_lanes(lanes) and (not kinds or are_kinds(kinds, len(lanes)))


def read_lane(words):
    """What the words of a lane's row tell, in the form of a lane; None where they cannot be such a row."""
    if len(words) != 3:
        return None
    return (words[1], read_bound(words[2]))


def read_kind(lanes, words):
    """What the words of a kind's row tell, in the form of a kind; None where they cannot be such a row."""
    if words[0] != "kind" or len(words) < 2:
        return None
    names = [lane[0] for lane in lanes]
    way = []
    bounds = []
    for step in words[2:]:
        name, colon, figures = step.partition(":")
        if name not in names:
            return None
        way.append(names.index(name))
        bounds.append(read_bound(figures))
    return (words[1], tuple(way), tuple(bounds))


def read_bound(word):
    """The number that the word writes; None where it is not written as a bound must be."""
    if not 1 <= len(word) <= MOST_FIGURES or word[0] == "0":
        return None
    if not all(sign in FIGURES for sign in word):
        return None
    return int(word)
