"""movedactors.controls: markings, controls and beginnings."""

import unittest

from movedactors.controls import controls, is_control, is_marking, markings, started, starts, takes
from movedactors.editions import Edition
from movedactors.errors import BadControl, BadWords, UnknownName
from samples import (
    CELL, KID, OLD_KINDS, anythings, book, given, go, leaf, mark, new_edition, of, old_edition, var, word,
)

COLORS = ("red", "green", "blue")
SELF = ("var", ("self",))
NO_CONTROLS = [
    ("cell", "idle", ()), ("cell", "idle", ("red", "red")), ("cell", "idle", ("big",)), ("cell", "idle", ["red"]),
    ["cell", "idle", ("red",)], ("cell", "idle"), ("cell", "idle", ("red",), ()), ("cell", "only", ()),
    ("kid", "idle", ("red",)),
    ("none", "idle", ("red",)), ("cell", "none", ("red",)), ("cell", "idle", "red"), ("cell", "busy", None),
    ("kid", "only", []),
    ("cell", "idle", (True,)), ("cell", "idle", (("red",),)), (["cell"], "idle", ("red",)), ("cell", {}, ()), "cell",
    (), True, 0,
    ("cell", "idle", (word("red"),)), ("kid", "only", {}), ("unit", "work", ()),
]


def wide_edition():
    """A role with an "if" in an "if" at its start, and marks of several sorts."""
    def ended(c, s):
        return leaf(go("two", (mark("q"), word(c), mark("p")), (of("pair", var("j"), var("self")), var("i"), var("i"))))
    body = ("if", "q", "big", ("if", "p", "red", ended("bad", ""), ended("worse", "")), ("if", "q", "small", (
        "if", "p", "blue", leaf(go("one")), ended("ended", "")), leaf(go("one"))))
    modes = (("one", (), (), (), True), ("two", (("a", "size"), ("b", "why"), ("c", "color")), ("x", "y", "z"), (),
        False))
    return Edition(book(), [], [("r", modes, ((("p", "color"), ("q", "size")), ("i", "j"), body), ())], ())


class Markings(unittest.TestCase):
    def test_in_order(self):
        self.assertEqual(markings(book(), ()), [()])
        self.assertEqual(markings(book(), []), [()])
        self.assertEqual(markings(book(), (("a", "color"),)), [("red",), ("green",), ("blue",)])
        self.assertEqual(markings(book(), [("a", "color"), ("b", "size")]), [
            ("red", "small"), ("red", "big"), ("green", "small"), ("green", "big"), ("blue", "small"), ("blue", "big")])
        self.assertEqual(markings(book(), [("b", "size"), ("a", "why")]), [
            (s, w) for s in ("small", "big") for w in ("ended", "closed", "bad", "worse")])
        self.assertEqual(len(markings(book(), [("a", "why"), ("b", "why"), ("c", "color")])), 48)

    def test_told_lists_are_new(self):
        told = markings(book(), ())
        told.append(1)
        self.assertEqual(markings(book(), ()), [()])

    def test_is_marking(self):
        marks = (("a", "color"), ("b", "why"))
        for value in (("red", "ended"), ["red", "ended"], ("blue", "worse"), ["green", "closed"]):
            self.assertIs(is_marking(book(), marks, value), True)
            self.assertIs(is_marking(book(), list(marks), value), True)
        for value in (("red",), ("red", "red"), ("ended", "red"), ("red", "ended", "red"), (), "red", {},
            {"red": 1, "bad": 2},
                      ("red", True), (["red"], "ended"), ("red", ("ended",)), ("red", "Bad"), True, 0, None,
                      ("Red", "bad")):
            self.assertIs(is_marking(book(), marks, value), False, value)
        for value in anythings():
            self.assertIs(is_marking(book(), marks, value), False)
            self.assertIs(is_marking(book(), marks, ("red", value)), False)
            self.assertIs(is_marking(book(), (), value), value == [])
        for value in ((), []):
            self.assertIs(is_marking(book(), (), value), True)
        self.assertIs(is_marking(book(), (), ("red",)), False)


class Controls(unittest.TestCase):
    def test_in_order(self):
        self.assertEqual(controls(old_edition(), "cell"), [("cell", "idle", (c,)) for c in COLORS] + [("cell", "busy",
            ())])
        self.assertEqual(controls(old_edition(), "kid"), [("kid", "only", ())])
        self.assertEqual(controls(new_edition(), "unit"), [
            ("unit", "rest", ("small",)), ("unit", "rest", ("big",)), ("unit", "work", ())])
        told = controls(wide_edition(), "r")
        self.assertEqual(told[:3], [("r", "one", ()), ("r", "two", ("small", "ended", "red")),
                                    ("r", "two", ("small", "ended", "green"))])
        self.assertEqual((len(told), told[-1]), (25, ("r", "two", ("big", "worse", "blue"))))
        told.clear()
        self.assertEqual(len(controls(wide_edition(), "r")), 25)

    def test_is_control(self):
        edition = old_edition()
        for role in ("cell", "kid"):
            for control in controls(edition, role):
                self.assertIs(is_control(edition, control), True)
        for value in NO_CONTROLS + anythings() + [tuple(anythings()), tuple(anythings()[:3])]:
            self.assertIs(is_control(edition, value), False, value)
        for value in anythings():
            self.assertIs(is_control(edition, (value, "idle", ("red",))), False)
            self.assertIs(is_control(edition, ("cell", value, ("red",))), False)
            self.assertIs(is_control(edition, ("cell", "idle", value)), False)
            self.assertIs(is_control(edition, ("cell", "idle", (value,))), False)

    def test_takes(self):
        edition = old_edition()
        idle, busy = ("cell", "idle", ("green",)), ("cell", "busy", ())
        self.assertEqual([takes(edition, idle, kind) for kind in ("put", "ask", "tick", "gone")],
            [True, False, True, True])
        self.assertEqual([takes(edition, busy, kind) for kind in ("put", "ask", "tick", "gone")],
            [False, True, False, False])
        self.assertIs(takes(edition, idle, "put"), True)
        self.assertIs(takes(edition, busy, "put"), False)
        for control in NO_CONTROLS + anythings():
            for kind in ("put", "none", 7):
                with self.assertRaises(BadControl):
                    takes(edition, control, kind)
        for kind in anythings() + ["none", "main", "set", True, ("put",)]:
            with self.assertRaises(UnknownName) as caught:
                takes(edition, idle, kind)
            self.assertIs(caught.exception.name, kind)

    def test_unknown_roles(self):
        for role in anythings() + ["none", "idle", "self", "unit", True, 0, ("cell",)]:
            for ask in (controls, starts, lambda edition, role: started(edition, role, 7)):
                with self.assertRaises(UnknownName) as caught:
                    ask(old_edition(), role)
                self.assertIs(caught.exception.name, role)


class Beginnings(unittest.TestCase):
    def test_starts(self):
        self.assertEqual(starts(old_edition(), "cell"), [("red",), ("green",), ("blue",)])
        self.assertEqual(starts(old_edition(), "kid"), [()])
        self.assertEqual(starts(new_edition(), "unit")[:2], [("small", "red"), ("small", "green")])

    def test_started(self):
        edition = old_edition()
        red = (("cell", "idle", ("red",)), (given("i"), of("up", given("i"))))
        other = (("cell", "busy", ()), (of("pair", SELF, given("i")),))
        for words in (("red",), ["red"]):
            self.assertEqual(started(edition, "cell", words), red)
        self.assertEqual(started(edition, "cell", ("green",)), other)
        self.assertEqual(started(edition, "cell", ["blue"]), other)
        self.assertEqual(started(edition, "kid", ()), (("kid", "only", ()), ()))
        self.assertEqual(started(edition, "kid", []), (("kid", "only", ()), ()))

    def test_nested_questions(self):
        edition = wide_edition()
        terms = (of("pair", given("j"), SELF), given("i"), given("i"))
        for words, control in (
            (("red", "big"), ("r", "two", ("big", "bad", "red"))),
            (("green", "big"), ("r", "two", ("big", "worse", "green"))),
            (("blue", "big"), ("r", "two", ("big", "worse", "blue"))), (("blue", "small"), ("r", "one", ())),
            (("red", "small"), ("r", "two", ("small", "ended", "red"))),
            (["green", "small"], ("r", "two", ("small", "ended", "green"))),
        ):
            self.assertEqual(started(edition, "r", words), (control, terms if control[1] == "two" else ()))

    def test_wrong_words(self):
        for words in anythings() + [("big",), ("red", "red"), (), "red", True, (["red"],), {"red": 1}, ["Red"]]:
            with self.assertRaises(BadWords):
                started(old_edition(), "cell", words)
        with self.assertRaises(BadWords):
            started(old_edition(), "kid", ("red",))

    def test_names_that_come_again(self):
        """A word that has the name of a mark is a word, and a variable that has the name of a primitive a variable."""
        modes = (("m", (("a", "color"),), ("y",), (), False),)
        body = ("if", "red", "red", leaf(go("m", (word("red"),), (var("up"),))),
            leaf(go("m", (mark("red"),), (of("up", var("up")),))))
        role = ("r", modes, ((("red", "color"),), ("up",), body), ())
        edition = Edition(book(), OLD_KINDS, [role, CELL, KID], ())
        self.assertEqual(started(edition, "r", ("red",)), (("r", "m", ("red",)), (given("up"),)))
        self.assertEqual(started(edition, "r", ("blue",)), (("r", "m", ("blue",)), (of("up", given("up")),)))


if __name__ == "__main__":
    unittest.main()
