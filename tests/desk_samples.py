"""A desk with entries, its rows and what it answers."""

from cardlanes.desk import Desk

TEXT = "lane todo 3\nlane doing 1\nlane done 9\nkind bug todo:2 doing:1 done:9\nkind chore doing:1"
TOLD = (
    "tell 10 ann add axe bug", "tell 20 ann add bee bug", "tell 30 bob pull axe", "tell 30 bob pull bee",
    "tell 40 ann pull axe", "tell 50 ann pull axe", "tell 60 ann pull axe", "tell 1000000000 zed pull bee",
)
ANSWERS = (
    ("book", "\n".join(row.removeprefix("tell ") for row in TOLD)),
    ("where axe 10", "yard"),
    ("where axe 29", "yard"),
    ("where axe 30", "todo"),
    ("where axe 45", "doing"),
    ("where axe 59", "done"),
    ("where axe 60", "out"),
    ("where bee 20", "yard"),
    ("where bee 999999999", "todo"),
    ("where bee 1000000000", "doing"),
    ("lane todo 0", "-"),
    ("lane todo 29", "-"),
    ("lane todo 30", "axe bee"),
    ("lane todo 40", "bee"),
    ("lane todo 1000000000", "-"),
    ("lane doing 1000000000", "bee"),
    ("lane done 49", "-"),
    ("lane done 50", "axe"),
    ("sum todo 0 30", "0"),
    ("sum todo 0 31", "2"),
    ("sum todo 30 40", "20"),
    ("sum todo 30 1000", "980"),
    ("sum todo 40 30", "0"),
    ("sum todo 30 30", "0"),
    ("sum todo -5 -1", "0"),
    ("sum todo -1000000000 2000000000", "999999980"),
    ("sum doing -1000000000 2000000000", "1000000010"),
    ("sum done -1 2000000000", "10"),
    ("stay axe todo 0 100", "10"),
    ("stay bee todo 0 100", "70"),
    ("stay axe doing 45 46", "1"),
    ("stay axe doing 46 45", "0"),
    ("stay axe done -1000000000 2000000000", "10"),
    ("stay bee doing -1000000000 2000000000", "1000000000"),
    ("stay bee done -1000000000 2000000000", "0"),
    ("mean todo 30 40", "2/1"),
    ("mean todo 25 40", "4/3"),
    ("mean todo 0 30", "0/1"),
    ("mean todo 30 30", "-"),
    ("mean todo 31 30", "-"),
    ("mean done 0 100", "1/10"),
    ("mean doing -1000000000 2000000000", "100000001/300000000"),
    ("visits axe", "todo:30-40 doing:40-50 done:50-60"),
    ("visits bee", "todo:30-1000000000 doing:1000000000-"),
    ("empty 1", "row bee bee"),
    ("empty 200", "row bee bee"),
)


def desk_of(rows=TOLD, text=TEXT):
    """A desk that was told the rows."""
    desk = Desk(text)
    for row in rows:
        desk.say(row)
    return desk
