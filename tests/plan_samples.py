"""Plans that several tests look at, and things of every kind."""

SMALL = ((("todo", 1),), (("bug", (0,), (1,)),))
SMALL_TEXT = "lane todo 1\nkind bug todo:1"

ORDINARY = (
    (("todo", 9), ("doing", 3), ("test", 10)),
    (("bug", (0, 1, 2), (4, 2, 99)), ("doing", (0, 2), (1, 5)), ("chore", (1,), (3,))),
)
ORDINARY_TEXT = "\n".join([
    "lane todo 9",
    "lane doing 3",
    "lane test 10",
    "kind bug todo:4 doing:2 test:99",
    "kind doing todo:1 test:5",
    "kind chore doing:3",
])

GREATEST = (
    tuple((letter * 8, 99) for letter in "abcdef"),
    tuple((letter * 8, tuple(range(6)), (99,) * 6) for letter in "uvwxyz"),
)
GREATEST_TEXT = "\n".join(
    [f"lane {letter * 8} 99" for letter in "abcdef"]
    + [f"kind {letter * 8} " + " ".join(f"{lane * 8}:99" for lane in "abcdef") for letter in "uvwxyz"]
)

PLANS = (SMALL, ORDINARY, GREATEST)
PLANS_AND_TEXTS = ((SMALL, SMALL_TEXT), (ORDINARY, ORDINARY_TEXT), (GREATEST, GREATEST_TEXT))

# None of these is a name, a bound, a lane's number or any part of a plan.
ODD_THINGS = (
    None, True, False, -1, 100, 10 ** 60 - 1, 1 - 10 ** 60, "", "A", "1", "out", "yard", "lane todo 1\n", (), [],
    (None,), [None], [1], ["todo"], (True,), ("",), ((),), [[[[[]]]]], (((((),),),),), [([("a", 1)],)],
)


def parts_of(thing, path=()):
    """The paths to a thing and to all that is within it, each with what is there."""
    found = [(path, thing)]
    if isinstance(thing, (tuple, list)):
        for at, part in enumerate(thing):
            found += parts_of(part, path + (at,))
    return found


def with_part(thing, path, new):
    """The tuple with another part at the path."""
    if not path:
        return new
    at = path[0]
    return thing[:at] + (with_part(thing[at], path[1:], new),) + thing[at + 1:]
