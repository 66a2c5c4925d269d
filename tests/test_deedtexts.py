"""[13] deeds read from texts; and [2] of what is handed in there."""

import copy
import unittest

from cardlanes.deeds import Add, Back, Block, Bound, Clear, Let, Pull, Wait
from cardlanes.deedtexts import read_deed
from cardlanes.errors import LaneError, NoText

from deed_model import DEED
from plan_samples import ODD_THINGS, ORDINARY
from refusals import Refusals, shown_error
from stand_samples import BUSY, ORDINARY_STAND, STAND_PLANS, WIDE

SIGNS = "a z019:-+A\n\"~o"

# Each kind of deed, with names of one sign, of eight, of words of deeds and of words near `out` and `yard`.
DEEDS = (
    (Add("axe", "bug"), "add axe bug"),
    (Add("a", "abcdefgh"), "add a abcdefgh"),
    (Add("add", "pull"), "add add pull"),
    (Pull("axe"), "pull axe"),
    (Pull("abcdefgh"), "pull abcdefgh"),
    (Pull("pull"), "pull pull"),
    (Back("axe"), "back axe"),
    (Back("z"), "back z"),
    (Block("axe"), "block axe"),
    (Block("outs"), "block outs"),
    (Clear("axe"), "clear axe"),
    (Clear("ou"), "clear ou"),
    (Wait("axe", "doing", "bee"), "wait axe doing bee"),
    (Wait("axe", "out", "bee"), "wait axe out bee"),
    (Wait("axe", "out", "axe"), "wait axe out axe"),
    (Wait("wait", "wait", "wait"), "wait wait wait wait"),
    (Let("axe", "bee"), "let axe bee"),
    (Let("axe", "axe"), "let axe axe"),
    (Let("yards", "yar"), "let yards yar"),
    (Bound("doing", 1), "bound doing 1"),
    (Bound("abcdefgh", 99), "bound abcdefgh 99"),
    (Bound("bound", 10), "bound bound 10"),
)
TEXTS = tuple(text for deed, text in DEEDS)


def bent_texts(text):
    """The text with a word left out, twice, for another one, put in, two exchanged, and with blanks and line feeds."""
    words = text.split(" ")
    for at in range(len(words) + 1):
        for word in ("axe", "out", "yard", "add", "pull", "wait", "bound", "1", "", "abcdefghi", "Axe", "\n"):
            yield " ".join(words[:at] + [word] + words[at:])
            yield " ".join(words[:at] + [word] + words[at + 1:])
    for at in range(len(words)):
        yield " ".join(words[:at] + words[at + 1:])
        yield " ".join(words[:at + 1] + words[at:])
        yield " ".join(words[:at])
        for other in range(at):
            turned = list(words)
            turned[at], turned[other] = words[other], words[at]
            yield " ".join(turned)
    for blank in (" ", "\n", "\t", "  ", " \n"):
        yield blank + text
        yield text + blank
        yield text.replace(" ", blank)
        yield text.replace(" ", blank, 1)
    yield text.upper()
    yield text.title()
    yield text + "\n" + text
    yield text + " " + text


def mutants(text):
    """The text with one sign left out, put in or put for another."""
    for at in range(len(text) + 1):
        yield text[:at]
        yield text[at:]
        yield text[:at] + text[at + 1:]
        for sign in SIGNS:
            yield text[:at] + sign + text[at:]
            yield text[:at] + sign + text[at + 1:]


def outcome(deed, plan, stand):
    """What comes of the deed: the stand, or its refusal."""
    try:
        return deed.done(plan, stand)
    except LaneError as error:
        return shown_error(error)


class Read(unittest.TestCase):
    def test_the_text_of_each_deed(self):
        for deed, text in DEEDS:
            with self.subTest(text):
                self.assertEqual(deed.written(), text)
                read = read_deed(text)
                self.assertIs(type(read), type(deed))
                self.assertEqual(vars(read), vars(deed))
                self.assertEqual(read.written(), text)

    def test_it_does_the_same_in_stands(self):
        names = [(card, kind, lane) for card in "abcfgkx" for kind in ("all", "ends", "x") for lane in ("la", "ld", "out")]
        for card, kind, lane in names:
            deeds = [Add(card, kind), Pull(card), Back(card), Block(card), Clear(card), Let(card, "b"), Let("e", card)]
            deeds += [Wait(card, lane, other) for other in "afx"]
            deeds += [Bound(where, bound) for where in ("la", "lc", "lx") for bound in (1, 2, 3, 99)]
            for deed in deeds:
                self.assertEqual(outcome(read_deed(deed.written()), WIDE, BUSY), outcome(deed, WIDE, BUSY))

    def test_it_does_the_same_in_an_ordinary_stand(self):
        bounds, cards, waits = ORDINARY_STAND
        axe, bee, cat, dog = cards
        for text, after in (
            ("add x chore", (bounds, (*cards, ("x", "chore", 0, False)), waits)),
            ("back dog", (bounds, (axe, bee, cat, ("dog", "doing", 1, False)), waits)),
            ("block axe", (bounds, (("axe", "chore", 0, True), bee, cat, dog), waits)),
            ("clear bee", (bounds, (axe, ("bee", "bug", 2, False), cat, dog), waits)),
            ("wait axe out cat", (bounds, cards, (waits[0], ("axe", 3, "cat"), *waits[1:]))),
            ("wait axe test cat", (bounds, cards, (waits[0], ("axe", 2, "cat"), *waits[1:]))),
            ("let dog bee", (bounds, cards, waits[:3])),
            ("bound doing 1", ((9, 1, 10), cards, waits)),
            ("pull dog", ("Waits", {"card": "dog", "other": "bee"})),
            ("pull axe", ("Waits", {"card": "axe", "other": "bee"})),
        ):
            self.assertEqual(outcome(read_deed(text), ORDINARY, ORDINARY_STAND), after)
        self.assertEqual(
            outcome(read_deed("pull dog"), ORDINARY, (bounds, cards, ())),
            (bounds, (axe, bee, cat, ("dog", "doing", 3, False)), ()),
        )

    def test_every_bound(self):
        for bound in range(1, 100):
            read = read_deed(f"bound a {bound}")
            self.assertIs(type(read), Bound)
            self.assertEqual(vars(read), {"lane": "a", "bound": bound})
            self.assertIs(type(read.bound), int)

    def test_names_that_are_nowhere(self):
        for text in ("add x x", "pull x", "back x", "block x", "clear x", "wait x x x", "let x x", "bound x 5"):
            self.assertEqual(read_deed(text).written(), text)

    def test_each_reading_is_a_deed_of_its_own(self):
        first, second = read_deed("pull a"), read_deed("pull a")
        first.card = "b"
        self.assertEqual(second.written(), "pull a")


class Refused(Refusals):
    def assert_no_deed(self, thing):
        with self.subTest(thing):
            before = copy.deepcopy(thing)
            self.assert_refused(NoText, {"row": 0}, read_deed, thing)
            self.assertEqual(thing, before)

    def test_by_hand(self):
        for text in (
            "", " ", "\n", "add", "add ", "add a", "add a ", "add a b ", " add a b", "add  a b", "add a  b", "add a b c",
            "add\na b", "add a b\n", "Add a b", "adds a b", "ad a b", "add a out", "add out a", "add yard a", "add a yard",
            "pull", "pull ", "pull a b", "pull  a", "pull A", "pull a1", "pull a-b", "pull out", "pull yard", "a pull",
            "pull abcdefghi", "back", "back out", "block", "block yard", "clear", "clear 1", "wait", "wait a b", "wait a b c d",
            "wait out b c", "wait a yard c", "wait a b out", "wait a out out", "wait a abcdefghi b", "wait a  c",
            "wait abcdefghi a b", "wait a b abcdefghi", "let", "let a", "let a b c", "let out a", "let a out", "let a yard",
            "bound", "bound a", "bound a ", "bound out 1", "bound yard 1", "bound a 0", "bound a 00", "bound a 01",
            "bound a 001", "bound a 100", "bound a 990", "bound a 1000", "bound a +1", "bound a -1", "bound a 1.", "bound a 1 ",
            "bound a 1 1", "bound a b", "bound 1 a", "bound abcdefghi 1", "bound a 1\n", "bound a 1_0", "bound a",
            "deed", "out", "yard", "a", "done a", "lane a 1", "add:a:b", "pull a\npull b", "pull a" * 100,
        ):
            self.assert_no_deed(text)

    def test_figures_of_another_kind(self):
        for figure in ("\u0661", "\u00b2", "\uff11"):
            self.assert_no_deed("bound a " + figure)
            self.assert_no_deed("bound a 1" + figure)
        self.assert_no_deed("pull \u00e9")

    def test_what_is_no_text(self):
        things = [thing for thing in ODD_THINGS if not isinstance(thing, str)]
        things += [0, 1, 2, ["pull a"], ("pull a",), ["pull", "a"], ("pull", "a"), [["pull", "a"]], ("bound", "a", 1)]
        for thing in things:
            self.assert_no_deed(thing)

    def test_odd_texts(self):
        for thing in ODD_THINGS:
            if isinstance(thing, str):
                self.assert_no_deed(thing)

    def test_bent_words_and_signs(self):
        read = refused = 0
        for text in TEXTS:
            for bent in [*bent_texts(text), *mutants(text)]:
                if DEED.fullmatch(bent):
                    self.assertEqual(read_deed(bent).written(), bent)
                    read += 1
                else:
                    self.assert_refused(NoText, {"row": 0}, read_deed, bent)
                    refused += 1
        self.assertGreater(read, 1000)
        self.assertGreater(refused, 10000)

    def test_out_and_yard_at_each_place(self):
        for text in TEXTS:
            words = text.split(" ")
            for at in range(len(words)):
                for word in ("out", "yard"):
                    bent = " ".join(words[:at] + [word] + words[at + 1:])
                    if words[0] == "wait" and (at, word) == (2, "out"):
                        self.assertEqual(read_deed(bent).lane, "out")
                    else:
                        self.assert_no_deed(bent)


class WhereverItIsDone(unittest.TestCase):
    def test_out_is_how_many_lanes_there_are(self):
        for plan in STAND_PLANS:
            kind = plan[1][0][0]
            stand = read_deed(f"add a {kind}").done(plan, (tuple(bound for name, bound in plan[0]), (), ()))
            self.assertEqual(read_deed("wait a out a").done(plan, stand)[2], (("a", len(plan[0]), "a"),))


if __name__ == "__main__":
    unittest.main()
