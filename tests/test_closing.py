"""movedactors.closing: verdicts, and the greatest change."""

import random
import unittest

from movedactors.closing import closing, greatest_change
from movedactors.derived import derived
from movedactors.edges import reached
from movedactors.errors import NotClosable
from movedactors.joint import Joint
from movedactors.obligations import decide_role, decide_row
from movedactors.printer import change_text
from movedactors.ranks import open_ports, rank
from movedactors.reader import read_change, read_edition
from plain_joint import some_changes
from randoms import remembering
from samples import SELF, of, reg
from test_joint import BUSY, ONLY, idle, joined
from world import BOOK

# The new code counts what the old one forgets: nothing is right for the modes that have forgotten it.
OLD = read_edition(BOOK, """
    edition {
        kind put main (c color) (a);
        kind ask side () ();
        role r {
            mode a () (x) [main, side];
            mode b () () [main, side, gone];
            mode c () () [side];
            mode d () () [];
            mode e () () [];
            start (p color) (i) { go a () (i); }
            on a put { go b () (); }
            on a ask { go c () (); }
            on b put if c red { go a () (a); } else { stop; }
            on b ask { go b () (); }
            on b gone { go d () (); }
            on c ask { go c () (); }
        }
        role s { mode only (q color) () []; start (p color) () { go only ($p) (); } }
    }
""")
NEW = read_edition(BOOK, """
    edition {
        kind put main (c color) (a);
        kind ask side () ();
        role r {
            mode a () (y) [main, side];
            mode b () (y) [main, side, gone];
            mode c () (y) [side];
            mode d () () [];
            mode e () () [];
            start (p color) (i) { go a () (i); }
            on a put { go b () (a); }
            on a ask { go c () (y); }
            on b put if c red { go a () (a); } else { stop; }
            on b ask { go b () (y); }
            on b gone { go d () (); }
            on c ask { go c () (y); }
        }
        role s { mode only (q color) () []; start (p color) () { go only ($p) (); } }
    }
""")
CHANGE = read_change(OLD, NEW, """
    change { kind put to put ($c) (a); kind ask to ask () (); role r to r ($p) (i); role s to s ($p) ();
             row s only (green) to only (green) (); row r d () to e () (); row r e () to e () (); row r c () to c () (self); }
""")
A, B, C, D = [("r", mode, ()) for mode in "abcd"]
ONLY_RED, ONLY_GREEN = [("s", "only", (color,)) for color in ("red", "green")]


class Verdicts(unittest.TestCase):
    def test_each_in_order(self):
        """A wrong row of c, which is trapped, is left out; that of d is turned; e is not reached."""
        self.assertEqual(closing(CHANGE), [
            (A, "made", "a", (), (reg("x"),)), (B, "waits", 1, ("main", "gone")), (C, "trapped"), (D, "turned", "d", (), ()),
            (ONLY_RED, "made", "only", ("red",), ()), (ONLY_GREEN, "kept", "only", ("green",), ())])

    def test_greatest_change(self):
        told = greatest_change(CHANGE)
        self.assertEqual(told.rows(), [
            (A, "a", (), (reg("x"),)), (D, "d", (), ()), (ONLY_RED, "only", ("red",), ()), (ONLY_GREEN, "only", ("green",), ())])
        self.assertEqual(told, CHANGE.with_rows(told.rows()))
        self.assertEqual((told.kinds(), told.roles()), (CHANGE.kinds(), CHANGE.roles()))

    def test_closing_the_greatest_change(self):
        told = closing(greatest_change(CHANGE))
        self.assertEqual([verdict[1] for verdict in told], ["kept", "waits", "trapped", "kept", "kept", "kept"])
        self.assertEqual([verdict[2:] for verdict in told], [verdict[2:] for verdict in closing(CHANGE)])
        self.assertEqual(greatest_change(greatest_change(CHANGE)), greatest_change(CHANGE))

    def test_ranks_in_the_greatest_change(self):
        """Not in the given one: there c is free, and a waits."""
        self.assertEqual((rank(CHANGE, A), rank(CHANGE, B), rank(CHANGE, C)), (1, 1, 0))
        self.assertEqual(open_ports(CHANGE, B), ["gone"])
        self.assertEqual(open_ports(greatest_change(CHANGE), B), ["main", "gone"])

    def test_right_rows_are_kept(self):
        """Also where they are not the derived ones."""
        text = """
            edition { kind put main () (a); role r { mode m () (x, y) [main]; start () (i) { go m () (i, i); }
                                                     on m put { go m () (a, a); } } }
        """
        edition = read_edition(BOOK, text)
        one = read_change(edition, edition, """
            change { kind put to put () (a); role r to r () (i); row r m () to m () (y, x); }""")
        control = ("r", "m", ())
        self.assertEqual(closing(one), [(control, "kept", "m", (), (reg("y"), reg("x")))])
        self.assertEqual(greatest_change(one), one)
        wrong = one.with_rows([(control, "m", (), (reg("y"), of("up", reg("x"))))])
        self.assertEqual(closing(wrong), [(control, "turned", "m", (), (reg("x"), reg("x")))])
        self.assertEqual(closing(one.with_rows([])), [(control, "made", "m", (), (reg("x"), reg("x")))])

    def test_other_rows_do_not_matter(self):
        """Whether a row is kept, turned or made: with each other set of rows the same is told of it."""
        rows = CHANGE.rows()
        told = {verdict[0]: verdict for verdict in closing(CHANGE)}
        for number in range(1 << len(rows)):
            some = [row for k, row in enumerate(rows) if number >> k & 1]
            for verdict in closing(CHANGE.with_rows(some)):
                if CHANGE.row(verdict[0]) in some or verdict[1] in ("waits", "trapped"):
                    self.assertEqual(verdict, told[verdict[0]])
                elif verdict[1] == "made":
                    self.assertIsNone(CHANGE.with_rows(some).row(verdict[0]))

    def test_not_closable(self):
        """The first role that is not alike, in the order of the old edition."""
        self.assertEqual(len(closing(joined().change())), 4)
        one = joined(("link m;", "")).change()
        for ask in (closing, greatest_change):
            with self.assertRaises(NotClosable) as caught:
                ask(one)
            self.assertEqual(caught.exception.role, "cell")
            with self.assertRaises(NotClosable) as caught:
                ask(joined(("mode only () () [];", "mode only () () [] heeds;")).change())
            self.assertEqual(caught.exception.role, "kid")
            with self.assertRaises(NotClosable) as caught:
                ask(joined(("link m;", ""), ("mode only () () [];", "mode only () () [] heeds;")).change())
            self.assertEqual(caught.exception.role, "cell")

    def test_controls_of_all_roles(self):
        self.assertEqual([verdict[:2] for verdict in closing(joined().change())], [
            (idle("red")[0], "kept"), (idle("green")[0], "made"), (BUSY[0], "kept"), (ONLY[0], "made")])

    def test_told_values_are_new(self):
        closing(CHANGE).append(7)
        self.assertNotIn(7, closing(CHANGE))
        self.assertIsInstance(closing(CHANGE)[1][3], tuple)
        self.assertEqual(len(CHANGE.rows()), 4)


class Chosen(unittest.TestCase):
    def test_random_changes(self):
        chosen = random.Random(160)
        seen = {}
        for one in some_changes(160, 80, (0, 1, 1)) + remembering(161, 120):
            rows = [row for row in one.rows() if chosen.randrange(2)]
            change = one.with_rows([row if chosen.randrange(3) else spoilt(chosen, one, row) for row in rows])
            joint = Joint(change)
            odd = [role[0] for role in one.old().roles() if decide_role(joint, role[0])[0] == "unlike"]
            if odd:
                with self.assertRaises(NotClosable) as caught:
                    closing(change)
                self.assertEqual(caught.exception.role, odd[0])
                continue
            greatest = greatest_change(change)
            self.assertEqual(read_change(one.old(), one.new(), change_text(greatest)), greatest)
            told = closing(change)
            self.assertEqual([verdict[0] for verdict in told],
                             [control for role in one.old().roles() for control in reached(one.old(), role[0])])
            for verdict in told:
                seen[verdict[1]] = seen.get(verdict[1], 0) + 1
                self.check(joint, greatest, verdict)
            # No change without a wrong row moves more.
            right = [row for row in one.rows() if decide_row(joint, row)[0] == "right"]
            for control, *_ in told:
                other = rank(one.with_rows(right), control)
                mine = rank(greatest, control)
                self.assertTrue(other is None or (mine is not None and mine <= other))
        self.assertGreater(min(seen.get(word, 0) for word in ("kept", "turned", "made", "trapped", "waits")), 10, seen)

    def check(self, joint, greatest, verdict):
        control, word, *told = verdict
        row = joint.change().row(control)
        if word in ("kept", "turned", "made"):
            self.assertEqual(greatest.row(control), (control,) + tuple(told))
            self.assertEqual(decide_row(joint, greatest.row(control))[0], "right")
            is_right = row is not None and decide_row(joint, row)[0] == "right"
            self.assertEqual(word, "made" if row is None else "kept" if is_right else "turned")
            if word == "kept":
                self.assertEqual(greatest.row(control), row)
            else:
                self.assertEqual(("move",) + tuple(told), derived(joint, control))
            return
        self.assertIsNone(greatest.row(control))
        self.assertNotEqual(derived(joint, control)[0], "move")
        self.assertEqual(told, [] if word == "trapped" else [rank(greatest, control), tuple(open_ports(greatest, control))])


def spoilt(chosen, change, row):
    """A row that has another mode, or another term."""
    role = change.of_role(row[0][0])[1]
    mode = chosen.choice(change.new().role(role)[1])
    words = tuple(change.new().book().words(sort)[0] for _, sort in mode[1])
    return (row[0], mode[0], words, tuple(SELF for _ in mode[2]))


if __name__ == "__main__":
    unittest.main()
