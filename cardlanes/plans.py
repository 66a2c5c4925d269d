"""What names, bounds and plans are, and what a plan tells of its lanes and kinds."""

from cardlanes.errors import NoKind, NoLane

LETTERS = "abcdefghijklmnopqrstuvwxyz"
LONGEST_NAME = 8
# They tell where a card is that is in no lane, so a lane of such a name could not be told from that.
OUTSIDE = ("out", "yard")
GREATEST_BOUND = 99
MOST_LANES = 6
MOST_KINDS = 6


def is_name(thing):
    """Whether anything is a name."""
    if not isinstance(thing, str) or thing in OUTSIDE:
        return False
    return 1 <= len(thing) <= LONGEST_NAME and all(sign in LETTERS for sign in thing)


def is_plan(thing):
    """Whether anything is a plan."""
    if not is_tuple(thing, 2, 2):
        return False
    lanes, kinds = thing
    return are_lanes(lanes) and are_kinds(kinds, len(lanes))


def lane_number(plan, name):
    """The number of the lane of that name."""
    for number, lane in enumerate(plan[0]):
        if lane[0] == name:
            return number
    raise NoLane(name)


def way_of(plan, kind):
    """The way of the kind of that name."""
    return kind_of(plan, kind)[1]


def kind_bound(plan, kind, lane):
    """The bound of the kind of that name at a lane of its way."""
    name, way, bounds = kind_of(plan, kind)
    return bounds[way.index(lane)]


def kind_of(plan, kind):
    """The tuple of the kind of that name."""
    for told in plan[1]:
        if told[0] == kind:
            return told
    raise NoKind(kind)


def are_lanes(thing):
    """Whether anything may be the lanes of a plan."""
    return is_tuple(thing, 1, MOST_LANES) and all(is_lane(lane) for lane in thing) and have_unlike_names(thing)


def are_kinds(thing, lane_count):
    """Whether anything may be the kinds of a plan of so many lanes."""
    if not is_tuple(thing, 1, MOST_KINDS):
        return False
    return all(is_kind(kind, lane_count) for kind in thing) and have_unlike_names(thing)


def is_lane(thing):
    """Whether anything may be a lane of a plan."""
    return is_tuple(thing, 2, 2) and is_name(thing[0]) and is_bound(thing[1])


def is_kind(thing, lane_count):
    """Whether anything may be a kind of a plan of so many lanes."""
    if not is_tuple(thing, 3, 3):
        return False
    name, way, bounds = thing
    return is_name(name) and is_way(way, lane_count) and are_bounds(bounds, len(way))


def is_way(thing, lane_count):
    """Whether anything is a way through some of so many lanes."""
    if not is_tuple(thing, 1, lane_count):
        return False
    ahead = -1
    for number in thing:
        if not is_whole(number) or not ahead < number < lane_count:
            return False
        ahead = number
    return True


def are_bounds(thing, many):
    """Whether anything is a tuple of just so many bounds."""
    return is_tuple(thing, many, many) and all(is_bound(bound) for bound in thing)


def is_bound(thing):
    """Whether anything is a bound."""
    return is_whole(thing) and 1 <= thing <= GREATEST_BOUND


def is_whole(thing):
    """Whether anything is a whole number; Python counts True and False among the ints, the document does not."""
    return isinstance(thing, int) and not isinstance(thing, bool)


def is_tuple(thing, least, most):
    """Whether anything is a tuple of at least and at most so many things."""
    return isinstance(thing, tuple) and least <= len(thing) <= most


def have_unlike_names(tuples):
    """Whether no two of the tuples begin with the same name."""
    return len({each[0] for each in tuples}) == len(tuples)
