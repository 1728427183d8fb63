"""movedactors.squares: total changes, moved states, and squares of arrows."""

import random
import unittest

from movedactors.changes import Change
from movedactors.choices import make
from movedactors.controls import controls
from movedactors.edges import arrows, edge
from movedactors.errors import BadChange, BadControl, BadWords, NoControl, NotNow, UnknownName
from movedactors.handling import first_stand, next_stand
from movedactors.joint import Joint
from movedactors.meanings import Meaning, value_of
from movedactors.obligations import decide_role
from movedactors.raising import changed_terms, changed_words
from movedactors.reader import read_change, read_edition
from movedactors.squares import is_total, moved_state, square
from movedactors.systems import System
from plain_joint import some_changes, sub
from samples import SELF, anythings, of, reg
from test_joint import CHANGE_TEXT, NEW_TEXT, OLD, idle
from world import BOOK, FIRST, MEANING, SECOND, TO_SECOND

ROWS = """
    row cell idle (red) to rest (red) (y, x);
    row cell idle (green) to rest (green) (y, x);
    row cell busy () to work () (z);
    row kid only () to only () ();
"""
TOTAL_TEXT = CHANGE_TEXT[:CHANGE_TEXT.index("row ")] + ROWS + "}"
RED, GREEN, BUSY = ("cell", "idle", ("red",)), ("cell", "idle", ("green",)), ("cell", "busy", ())


def totalled(*replaced, rows=ROWS):
    """The change that has rows for all controls, to the edition in which some texts are replaced."""
    text = NEW_TEXT
    for one, other in replaced:
        assert text.count(one) == 1, one
        text = text.replace(one, other)
    return read_change(OLD, read_edition(BOOK, text), TOTAL_TEXT.replace(ROWS, rows))


def plain_square(change, control, kind, words):
    """The word of a square, told by walking one step in both editions."""
    def up(stand, own):
        (role, mode, marking), terms = stand
        row = change.row((role, mode, marking))
        held = dict(zip(change.old().mode(role, mode)[2], terms))
        told = tuple(sub(term, lambda v: own if v == ("self",) else held[v[1]]) for term in row[3])
        return ((change.of_role(role)[1], row[1], row[2]), told)

    old, new = change.old(), change.new()
    fields = [("var", ("field", x)) for x in old.kind(kind)[3]]
    kids = [("var", ("child", make[0])) for make in edge(old, control, kind, words)[0]]
    stand = (control, tuple(reg(x) for x in old.mode(*control[:2])[2]))
    behind, deeds = next_stand(old, stand, kind, words, fields, kids, SELF)
    start = up(stand, SELF)
    new_kind, new_words = changed_words(change, kind, words)
    try:
        told = edge(new, start[0], new_kind, new_words)
    except NotNow:
        return "takes"
    if len(told[0]) != len(deeds[0]):
        return "makes"
    new_fields = changed_terms(change, kind, words, fields)[2]
    new_behind, new_deeds = next_stand(new, start, new_kind, new_words, new_fields, kids, SELF)
    for one, other in zip(deeds[0], new_deeds[0]):
        if up(first_stand(old, *one[1:], one[0]), one[0]) != first_stand(new, *other[1:], other[0]):
            return "makes"
    for k, word in ((1, "links"), (2, "watches")):
        if deeds[k] != new_deeds[k]:
            return word
    sends = tuple((send[0],) + changed_terms(change, *send[1:]) for send in deeds[3])
    if sends != new_deeds[3]:
        return "sends"
    if (behind is None) != (new_behind is None):
        return "end"
    if behind is None:
        return None if deeds[4] == new_deeds[4] else "end"
    return None if up(behind, SELF) == new_behind else "end"


class Total(unittest.TestCase):
    def test_is_total(self):
        """Also for controls that are not reached, and with wrong rows."""
        one = totalled()
        self.assertIs(is_total(one), True)
        for k in range(4):
            self.assertIs(is_total(one.with_rows(one.rows()[:k] + one.rows()[k + 1:])), False)
        self.assertIs(is_total(one.with_rows(one.rows()[::-1])), True)
        self.assertIs(is_total(one.with_rows(one.rows()[:2] + [(BUSY, "rest", ("red",), (SELF, SELF))] + one.rows()[3:])), True)
        self.assertIs(is_total(TO_SECOND), False)
        empty = read_edition(BOOK, "edition { }")
        self.assertIs(is_total(Change(empty, empty, [], [], [])), True)


class Moved(unittest.TestCase):
    def test_moved_state(self):
        told = moved_state(MEANING, totalled(), (RED, (5, 6)), 9)
        self.assertEqual(told, (("unit", "rest", ("red",)), (6, 5)))
        self.assertEqual(moved_state(MEANING, totalled(), (("kid", "only", ()), ()), 9), (("kid", "only", ()), ()))

    def test_with_self_and_terms(self):
        self.assertEqual(moved_state(MEANING, TO_SECOND, (RED, (5,)), 9), (("box", "rest", ("red",)), (10509,)))
        self.assertEqual(moved_state(Meaning({}), TO_SECOND, (RED, (5,)), 9), (("box", "rest", ("red",)), (0,)))
        self.assertEqual(moved_state(MEANING, TO_SECOND, (BUSY, (5, 6)), 9), (("box", "work", ()), (6,)))

    def test_as_a_move_does(self):
        system = System(MEANING, [FIRST, SECOND], [TO_SECOND], [], [
            (a, 0, "cell", ("red",), (7 + a,)) for a in (1, 2)] + [(a, 0, "kid", (), ()) for a in (3, 5)])
        state = system.state(2)
        self.assertEqual(make(system, ("move", 2)), (("moved", 1, moved_state(MEANING, TO_SECOND, state, 2)),))

    def test_without_a_row(self):
        with self.assertRaises(NoControl) as caught:
            moved_state(MEANING, TO_SECOND, (GREEN, (5,)), 9)
        self.assertEqual(caught.exception.control, GREEN)
        with self.assertRaises(NoControl):
            moved_state(MEANING, totalled().with_rows([]), (BUSY, (5,)), 9)


class Squares(unittest.TestCase):
    def check(self, told, control, kind, words, *replaced, rows=ROWS):
        one = totalled(*replaced, rows=rows)
        self.assertEqual(square(one, control, kind, words), told)
        self.assertEqual(square(one, control, kind, list(words)), told)
        self.assertEqual(plain_square(one, control, kind, words), told)

    def test_closed(self):
        one = totalled()
        for role in ("cell", "kid"):
            for control, kind, words, _ in arrows(OLD, role):
                self.assertIsNone(square(one, control, kind, words))
                self.assertIsNone(plain_square(one, control, kind, words))

    def test_takes(self):
        gone = (("[main, gone]", "[main]"), ("on rest gone { go rest (red) (x, who); }", ""))
        self.check("takes", RED, "gone", ("bad",), *gone)
        self.check(None, RED, "put", ("red",), *gone)
        self.check("takes", BUSY, "ask", (), rows=ROWS.replace("to work () (z)", "to rest (red) (z, z)"))
        self.check("takes", RED, "put", ("green",), rows=ROWS.replace("idle (red) to rest (red) (y, x)", "idle (red) to work () (x)"))

    def test_makes(self):
        """The number, the stand in which a child begins, also only by another row for it."""
        extra = ("make n kid () ();", "make n kid () (); make o kid () ();")
        self.check("makes", RED, "put", ("red",), extra)
        self.check("makes", RED, "put", ("red",), extra, ("link m;", ""), ("go rest (green) (x, y);", "go work () (x);"))
        self.check("makes", RED, "put", ("red",), ("make m unit ($q) (x, e)", "make m unit ($q) (e, e)"))
        # Of the things of a start those alone count that the child keeps.
        self.check(None, RED, "put", ("red",), ("make m unit ($q) (x, e)", "make m unit ($q) (x, x)"))
        self.check(None, GREEN, "put", ("red",), ("make m unit ($q)", "make m unit (green)"))
        self.check("makes", RED, "put", ("red",), ("make m unit ($q)", "make m unit (green)"))
        # The child begins in the red control, so this row is that of the child.
        spoilt = ROWS.replace("idle (red) to rest (red) (y, x)", "idle (red) to rest (red) (x, y)")
        self.check("makes", RED, "put", ("red",), rows=spoilt)
        self.check(None, GREEN, "put", ("red",), rows=spoilt)
        self.check("makes", GREEN, "put", ("red",), rows=ROWS.replace("busy () to work () (z)", "busy () to work () (self)"))

    def test_the_child_itself(self):
        """("self",) of the row, and of the start, is the child: up(self) stands for its register y."""
        told = ROWS.replace("idle (red) to rest (red) (y, x)", "idle (red) to rest (red) (up(self), x)")
        self.check("links", RED, "put", ("red",), ("link m;", "link e;"), rows=told)
        self.check("watches", RED, "put", ("red",), rows=told)
        self.check("makes", RED, "put", ("red",), rows=told.replace("up(self)", "self"))

    def test_links_and_watches(self):
        self.check("links", RED, "put", ("red",), ("link m;", ""), ("watch y;", ""))
        self.check("links", RED, "put", ("red",), ("link e; link m;", "link m; link e;"))
        self.check("links", RED, "put", ("red",), ("link m;", "link n;"), ("send e query () (x); stop;", "stop;"))
        self.check("watches", RED, "put", ("red",), ("watch y;", "watch x;"), ("send n say (big)", "send n say (small)"))
        self.check("watches", RED, "gone", ("bad",), ("on rest gone {", "on rest gone { watch who;"))

    def test_sends(self):
        self.check("sends", RED, "put", ("red",), ("send n say (big)", "send n say (small)"), ("go rest (green) (x, y);", "go work () (x);"))
        self.check("sends", RED, "put", ("green",), ("send e query () (x); stop;", "send x query () (x); stop;"))
        self.check("sends", RED, "put", ("green",), ("send e query () (x); stop;", "fail bad;"))
        self.check("sends", GREEN, "put", ("green",), rows=ROWS.replace("idle (green) to rest (green) (y, x)",
                                                                     "idle (green) to rest (green) (y, y)"))
        self.check(None, RED, "put", ("green",), rows=ROWS.replace("idle (green) to rest (green) (y, x)",
                                                                   "idle (green) to rest (green) (y, y)"))

    def test_end(self):
        self.check("end", RED, "put", ("green",), ("send e query () (x); stop;", "send e query () (x); fail bad;"))
        self.check("end", RED, "put", ("green",), ("stop;", "go rest (red) (x, y);"))
        self.check("end", RED, "tell", ("small",), ("fail bad;", "fail worse;"))
        self.check("end", RED, "tell", ("small",), ("fail bad;", "go work () (v);"))
        self.check("end", RED, "tell", ("big",), ("go work () (v);", "go work () (x);"))
        self.check("end", RED, "tell", ("big",), ("go work () (v);", "stop;"))
        self.check("end", RED, "gone", ("bad",), ("go rest (red) (x, who);", "go rest (green) (x, who);"))
        self.check("end", RED, "put", ("red",), rows=ROWS.replace("idle (green) to rest (green) (y, x)",
                                                                "idle (green) to rest (green) (x, y)"))
        self.check("end", RED, "tell", ("big",), rows=ROWS.replace("busy () to work () (z)", "busy () to work () (up(z))"))

    def test_gone(self):
        """Its kind and its words stay the same."""
        split = ("on rest gone {", "on rest gone if why bad { stop; } else {")
        for why in BOOK.words("why"):
            self.check("end" if why == "bad" else None, RED, "gone", (why,), split)
            self.check(None, GREEN, "gone", (why,))

    def test_controls_that_are_not_reached(self):
        """Whatever leads there, their arrows count."""
        old = read_edition(BOOK, """
            edition { kind put main () (a); role r { mode m () (x) [main]; mode n () (x) [main];
                      start () (i) { go m () (i); } on m put { go m () (a); } on n put { send x put () (a); stop; } } }
        """)
        one = read_change(old, old, """
            change { kind put to put () (a); role r to r () (i); row r m () to m () (x); row r n () to m () (x); }
        """)
        self.assertEqual(square(one, ("r", "n", ()), "put", ()), "sends")
        self.assertIsNone(square(one, ("r", "m", ()), "put", ()))

    def test_a_closed_change(self):
        """A right row may hold the other one of two registers that are the same behind every history."""
        text = """
            edition { kind put main () (a); role r { mode m () (x, y) [main]; start () (i) { go m () (i, i); }
                      on m put { send a put () (y); go m () (a, a); } } }
        """
        edition = read_edition(BOOK, text)
        one = read_change(edition, edition, """
            change { kind put to put () (a); role r to r () (i); row r m () to m () (y, x); }
        """)
        self.assertEqual(decide_role(Joint(one), "r")[0], "alike")
        self.assertEqual(square(one, ("r", "m", ()), "put", ()), "sends")

    def test_errors(self):
        """BadChange((2,)) first of all, then those of edge, in their order."""
        for one in (TO_SECOND, totalled().with_rows([])):
            for told in ((RED, "put", ("red",)), (7, 7, 7), (RED, "put", 7)):
                with self.assertRaises(BadChange) as caught:
                    square(one, *told)
                self.assertEqual(caught.exception.path, (2,))
        one = totalled()
        for value in anythings() + [True, None, idle("red"), ("cell", "idle", ["red"])]:
            with self.assertRaises(BadControl):
                square(one, value, 7, 7)
            with self.assertRaises(UnknownName) as caught:
                square(one, RED, value, 7)
            self.assertIs(caught.exception.name, value)
            with self.assertRaises(BadWords):
                square(one, RED, "put", value)
            with self.assertRaises(NotNow):
                square(one, RED, "ask", value)

    def test_random_changes(self):
        seen = {}
        for one in some_changes(210, 120) + mixed(211, 60):
            if not is_total(one):
                self.assertNotEqual(len(one.rows()), sum(len(controls(one.old(), role[0])) for role in one.old().roles()))
                continue
            for role, _, _, _ in one.old().roles():
                for control, kind, words, _ in arrows(one.old(), role):
                    told = square(one, control, kind, words)
                    self.assertEqual(told, plain_square(one, control, kind, words))
                    seen[told] = seen.get(told, 0) + 1
        self.assertEqual(set(seen), {None, "takes", "makes", "links", "watches", "sends", "end"})
        self.assertEqual(value_of(MEANING, of("nil"), {}), 7)


def mixed(seed, many):
    """Changes that rename, with rows that are mixed up."""
    chosen = random.Random(seed)
    found = []
    for one in some_changes(seed, many, (0, 1)):
        rows = []
        for row in one.rows():
            others = [other for other in one.rows() if other[0][0] == row[0][0]]
            other = chosen.choice(others) if chosen.randrange(2) else row
            names = [reg(x) for x in one.old().mode(*row[0][:2])[2]] + [SELF]
            rows.append((row[0],) + other[1:3] + (tuple(chosen.choice(names) for _ in other[3]),))
        found.append(one.with_rows(rows))
    return found


if __name__ == "__main__":
    unittest.main()
