"""movedactors.edges: edges, arrows, first histories, reached controls and shut sets."""

import itertools
import random
import unittest

from movedactors.controls import controls, markings, started, starts, takes
from movedactors.edges import arrows, edge, first_history, judge_shut, reached
from movedactors.editions import Edition
from movedactors.errors import BadControl, BadWords, NotNow, UnknownName
from samples import (
    CELL, KID, OLD_KINDS, anythings, book, go, leaf, mark, new_edition, of, old_edition, replaced, var, word,
)
from test_controls import NO_CONTROLS

SELF = ("var", ("self",))


def reg(x):
    return ("var", ("register", x))


def fld(x):
    return ("var", ("field", x))


def kid(x):
    return ("var", ("child", x))


IDLE = ("cell", "idle", ("blue",))
PUT_EDGE = (
    (("k", "cell", ("blue",), (of("pair", reg("x"), kid("m")),)), ("m", "kid", (), ())),
    (kid("k"), of("up", fld("a"))),
    (SELF,),
    (
        (kid("k"), "put", ("red", "closed"), (reg("x"), kid("m"))),
        (of("nil"), "ask", (), (of("up", fld("b")),)),
    ),
    ("go", "idle", ("green",), (reg("x"), of("pair", reg("z"), kid("k")))),
)


def ring_edition():
    """A role whose controls are led to by words of messages alone.

    From m.red a step leads to the control of its word; from m.green on to n, which stops or fails or stays; m.blue
    is not reached from a start with "red".
    """
    kinds = [("to", "main", (("c", "color"),), ()), ("by", "side", (("y", "why"), ("s", "size")), ())]
    stop, fail, on = leaf(("stop",)), leaf(("fail", "bad")), leaf(go("n"))
    to = ("if", "f", "red", ("if", "c", "blue", stop, leaf(go("m", (mark("c"),)))), ("if", "f", "green", on, fail))
    by = ("if", "y", "bad", stop, ("if", "s", "big", on, fail))
    modes = (("m", (("f", "color"),), (), ("main",), False), ("n", (), (), ("side",), False),
        ("o", (), (), ("side",), True))
    handlers = (("m", "to", to), ("n", "by", by), ("o", "by", leaf(go("m", (word("blue"),)))))
    start = ((("p", "size"),), (), ("if", "p", "small", leaf(go("m", (word("red"),))), leaf(go("m", (word("red"),)))))
    return Edition(book(), kinds, [("r", modes, start, handlers)], ())


def lone_edition():
    """Two roles: in one the starts lead to different controls, in the other no message is taken."""
    modes = (("m", (("f", "color"),), (), ("gone",), False), ("n", (), (), (), False))
    start = ((("p", "color"),), (), ("if", "p", "green", leaf(go("n")), leaf(go("m", (mark("p"),)))))
    handlers = (("m", "gone", ("if", "why", "closed", leaf(go("m", (word("green"),))), leaf(go("m", (mark("f"),))))),)
    return Edition(book(), [], [("a", modes, start, handlers), KID], ())


def possible_ends(edition, role):
    """The table of the controls that possible histories lead to, found by walking all of them up to a length."""
    found = {}
    todo = [(started(edition, role, words)[0], (role, words, ())) for words in starts(edition, role)]
    for _ in range(6):
        more = []
        for control, history in todo:
            if control in found:
                continue
            found[control] = history
            for kind in edition.kinds():
                if takes(edition, control, kind[0]):
                    for words in markings(edition.book(), kind[2]):
                        end = edge(edition, control, kind[0], words)[4]
                        if end[0] == "go":
                            more.append(((role, end[1], end[2]), history[:2] + (history[2] + ((kind[0], words),),)))
        todo = more
    return found


class Edges(unittest.TestCase):
    def test_each_sort_of_variable(self):
        for words in (("red", "closed"), ["red", "closed"]):
            self.assertEqual(edge(old_edition(), IDLE, "put", words), PUT_EDGE)

    def test_walks(self):
        edition = old_edition()
        stop = ((), (), (), (), ("stop",))
        self.assertEqual(edge(edition, IDLE, "put", ("green", "bad")), stop)
        self.assertEqual(edge(edition, IDLE, "put", ("blue", "bad")), stop)
        self.assertEqual(edge(edition, IDLE, "put", ("blue", "ended")), (
            (("k", "kid", (), ()),), (), (), ((fld("a"), "tick", (), ()),), ("fail", "worse")))
        self.assertEqual(edge(edition, IDLE, "put", ("red", "bad")), replaced(PUT_EDGE, (3, 0, 2), ("red", "bad")))
        self.assertEqual(edge(edition, IDLE, "tick", ()), ((), (), (), (),
            ("go", "idle", ("blue",), (reg("z"), reg("x")))))
        self.assertEqual(edge(edition, ("cell", "busy", ()), "ask", []), (
            (), (), (), (), ("go", "idle", ("blue",), (fld("who"), reg("x")))))

    def test_gone(self):
        edition = old_edition()
        self.assertEqual(edge(edition, IDLE, "gone", ("ended",)), (
            (), (fld("who"),), (), (), ("go", "busy", (), (of("up", fld("who")),))))
        for why in ("closed", "bad", "worse"):
            self.assertEqual(edge(edition, IDLE, "gone", (why,)), ((), (), (), (), ("fail", "bad")))

    def test_words_of_the_control_and_the_message(self):
        edition = ring_edition()
        for f, c, end in (("red", "blue", ("stop",)), ("red", "red", ("go", "m", ("red",), ())),
                          ("red", "green", ("go", "m", ("green",), ())), ("green", "blue", ("go", "n", (), ())),
                          ("green", "red", ("go", "n", (), ())), ("blue", "blue", ("fail", "bad"))):
            self.assertEqual(edge(edition, ("r", "m", (f,)), "to", (c,)), ((), (), (), (), end))

    def test_names_of_words_and_marks_and_primitives(self):
        """A word that has the name of a mark is a word; the child that has the name of a primitive is a child."""
        body = leaf(go("m", (word("red"), mark("red"))), makes=(("up", "r", (), ()),), links=(of("up", var("up")),),
                    sends=((var("up"), "k", (mark("blue"), word("blue")), ()),))
        modes = (("m", (("red", "color"), ("green", "color")), (), ("main",), False),)
        start = ((), (), leaf(go("m", (word("red"), word("red")))))
        kinds = [("k", "main", (("blue", "color"), ("big", "color")), ())]
        edition = Edition(book(), kinds, [("r", modes, start, (("m", "k", body),))], ())
        self.assertEqual(edge(edition, ("r", "m", ("green", "blue")), "k", ("red", "green")), (
            (("up", "r", (), ()),), (of("up", kid("up")),), (), ((kid("up"), "k", ("red", "blue"), ()),),
            ("go", "m", ("red", "green"), ())))

    def test_errors_in_order(self):
        edition = old_edition()
        for control in NO_CONTROLS + anythings():
            with self.assertRaises(BadControl):
                edge(edition, control, "none", 7)
        for kind in anythings() + ["none", "set", "why", True]:
            with self.assertRaises(UnknownName) as caught:
                edge(edition, IDLE, kind, 7)
            self.assertIs(caught.exception.name, kind)
        for control, kind in ((IDLE, "ask"), (("cell", "busy", ()), "put"), (("cell", "busy", ()), "gone"),
                              (("kid", "only", ()), "tick")):
            for words in (7, (), ("red", "bad")):
                with self.assertRaises(NotNow):
                    edge(edition, control, kind, words)
        for words in anythings() + [("red",), ("bad", "red"), (), ("red", "bad", "bad"), "red", ("red", ["bad"]), {},
            True]:
            with self.assertRaises(BadWords):
                edge(edition, IDLE, "put", words)
        with self.assertRaises(BadWords):
            edge(edition, IDLE, "tick", ("red",))


class Arrows(unittest.TestCase):
    def test_in_order(self):
        edition = old_edition()
        told = arrows(edition, "cell")
        expected = []
        for c in ("red", "green", "blue"):
            control = ("cell", "idle", (c,))
            expected += [(control, "put", (p, y)) for p in ("red", "green", "blue") for y in ("ended", "closed",
                "bad", "worse")]
            expected += [(control, "tick", ())] + [(control, "gone", (y,)) for y in ("ended", "closed", "bad", "worse")]
        expected.append((("cell", "busy", ()), "ask", ()))
        self.assertEqual([arrow[:3] for arrow in told], expected)
        for control, kind, words, carried in told:
            self.assertEqual(carried, edge(edition, control, kind, words))
        self.assertTrue(all(isinstance(arrow, tuple) and len(arrow) == 4 for arrow in told))
        self.assertEqual(arrows(edition, "kid"), [])
        told.clear()
        self.assertEqual(len(arrows(edition, "cell")), 52)

    def test_unknown_roles(self):
        for role in anythings() + ["none", "unit", "idle", True, 0]:
            for ask in (arrows, reached, lambda edition, role: judge_shut(edition, role, [])):
                with self.assertRaises(UnknownName) as caught:
                    ask(old_edition(), role)
                self.assertIs(caught.exception.name, role)


class Histories(unittest.TestCase):
    def check(self, edition, role):
        """Each control is reached by the first history that is told, or by none."""
        ends = possible_ends(edition, role)
        for control in controls(edition, role):
            history = first_history(edition, control)
            if control not in ends:
                self.assertIsNone(history)
                continue
            self.assertEqual(history[0], role)
            at, stands = started(edition, role, history[1])[0], []
            for kind, words in history[2]:
                stands.append(at)
                self.assertIsInstance(words, tuple)
                end = edge(edition, at, kind, words)[4]
                self.assertEqual(end[0], "go")
                at = (role, end[1], end[2])
            stands.append(at)
            self.assertEqual(at, control)
            self.assertEqual(len(set(stands)), len(stands))
            self.assertEqual(first_history(edition, control), history)
        self.assertEqual(reached(edition, role), [control for control in controls(edition, role) if control in ends])

    def test_samples(self):
        for edition, role in ((old_edition(), "cell"), (old_edition(), "kid"), (new_edition(), "unit"),
            (ring_edition(), "r"),
                              (lone_edition(), "a"), (lone_edition(), "kid")):
            self.check(edition, role)

    def test_what_is_reached(self):
        self.assertEqual(reached(old_edition(), "cell"), controls(old_edition(), "cell"))
        self.assertEqual(reached(new_edition(), "unit"), [("unit", "rest", ("big",)), ("unit", "work", ())])
        self.assertEqual(reached(ring_edition(), "r"), [("r", "m", ("red",)), ("r", "m", ("green",)), ("r", "n", ())])
        self.assertEqual(reached(lone_edition(), "a"), controls(lone_edition(), "a"))
        self.assertEqual(first_history(ring_edition(), ("r", "m", ("red",)))[2], ())
        self.assertEqual(len(first_history(ring_edition(), ("r", "n", ()))[2]), 2)
        self.assertIsNone(first_history(ring_edition(), ("r", "o", ())))
        self.assertIsNone(first_history(ring_edition(), ("r", "m", ("blue",))))
        self.assertEqual(first_history(lone_edition(), ("a", "n", ())), ("a", ("green",), ()))
        told = reached(ring_edition(), "r")
        told.clear()
        self.assertEqual(len(reached(ring_edition(), "r")), 3)

    def test_no_controls(self):
        for control in NO_CONTROLS + anythings():
            with self.assertRaises(BadControl):
                first_history(old_edition(), control)

    def test_chosen_editions(self):
        chosen = random.Random(8)
        for _ in range(30):
            modes = tuple((f"m{k}", (("f", "color"),), (), ("main",), False) for k in range(4))

            def end():
                if chosen.randrange(4) == 0:
                    return leaf(("stop",))
                f = mark("f") if chosen.randrange(2) else word(chosen.choice(("red", "green", "blue")))
                return leaf(go(f"m{chosen.randrange(4)}", (f,)))

            handlers = tuple((mode[0], "k", ("if", "f", "red", end(),
                ("if", "c", "big", end(), end()))) for mode in modes)
            start = ((("p", "size"),), (), ("if", "p", "big", leaf(go("m0", (word("red"),))),
                leaf(go("m1", (word("blue"),)))))
            edition = Edition(book(), [("k", "main", (("c", "size"),), ())], [("r", modes, start, handlers)], ())
            self.check(edition, "r")


class ShutSets(unittest.TestCase):
    def test_samples(self):
        for edition, role in ((old_edition(), "cell"), (new_edition(), "unit"), (ring_edition(), "r"),
            (lone_edition(), "a")):
            known = controls(edition, role)
            leads = {control: [] for control in known}
            for control, _, _, carried in arrows(edition, role):
                if carried[4][0] == "go":
                    leads[control].append((role,) + carried[4][1:3])
            first = [started(edition, role, words)[0] for words in starts(edition, role)]
            for many in range(len(known) + 1):
                for value in itertools.combinations(known, many):
                    is_shut = all(control in value for control in first)
                    is_shut = is_shut and all(end in value for control in value for end in leads[control])
                    self.assertIs(judge_shut(edition, role, value), is_shut)
                    self.assertIs(judge_shut(edition, role, list(value)[::-1]), is_shut)
            self.assertIs(judge_shut(edition, role, reached(edition, role)), True)

    def test_more_less_and_twice(self):
        edition = ring_edition()
        told = reached(edition, "r")
        for k in range(3):
            self.assertIs(judge_shut(edition, "r", told[:k] + told[k + 1:]), False)
            self.assertIs(judge_shut(edition, "r", told + [told[k]]), False)
        self.assertIs(judge_shut(edition, "r", tuple(told)), True)
        self.assertIs(judge_shut(edition, "r", told + [("r", "m", ("blue",))]), True)
        self.assertIs(judge_shut(edition, "r", [("r", "m", ("blue",))] + told), True)
        self.assertIs(judge_shut(edition, "r", told + [("r", "o", ())]), False)
        self.assertIs(judge_shut(edition, "r", told + [("r", "o", ()), ("r", "m", ("blue",))]), True)

    def test_anything(self):
        edition = ring_edition()
        told = reached(edition, "r")
        for value in anythings() + [True, 0, "r", (), [], {told[0]: 1}, [list(told[0])] + told[1:], [[]], ([],)]:
            self.assertIs(judge_shut(edition, "r", value), False, value)
        for value in anythings() + [True, 0, ("r", "m"), ("r", "m", ["blue"]), ["r", "m", ("blue",)],
            ("s", "m", ("blue",))]:
            self.assertIs(judge_shut(edition, "r", told + [value]), False, value)
            self.assertIs(judge_shut(edition, "r", tuple(told) + (value,)), False)
        both = Edition(book(), OLD_KINDS, (CELL, KID), ())
        self.assertIs(judge_shut(both, "kid", [("kid", "only", ())]), True)
        self.assertIs(judge_shut(both, "kid", [("kid", "only", ()), ("cell", "busy", ())]), False)


if __name__ == "__main__":
    unittest.main()
