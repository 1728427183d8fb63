"""movedactors.traps: trapped controls, trap sets, and standing points."""

import random
import unittest

from movedactors.controls import markings
from movedactors.edges import arrows, reached
from movedactors.errors import UnknownName
from movedactors.ranks import open_ports, rank, ranks
from movedactors.reader import read_change, read_edition
from movedactors.reading import elder_forms
from movedactors.systems import System
from movedactors.traps import judge_trap, standing, trapped
from plain_joint import some_changes
from samples import anythings, nested
from test_ranks import NAMES, at, freed
from world import BOOK, MEANING

A, B, C, D, F, RED, GREEN, T = NAMES

# Kinds that change into the kinds of the new edition in all ways; nothing leads to "none" and to "odd".
OLD = read_edition(BOOK, """
    edition {
        kind put main (c color) (a, b);
        kind twice main () (a);
        kind made main () (a);
        kind less main (c color) (a, b);
        kind same main () (a, b);
        kind ask side () (u);
        role r {
            mode m (q color) () [main, side, gone];
            mode n () () [side];
            start (p color) () if p red { go m ($p) (); } else { go n () (); }
            on m put { stop; } on m twice { stop; } on m made { fail bad; } on m less { stop; } on m same { stop; }
            on m ask if q red { go n () (); } else { stop; }
            on m gone { go m (green) (); }
            on n ask { go m (red) (); }
        }
        role s { mode n () () [side]; start () () { go n () (); } on n ask { stop; } }
    }
""")
NEW = read_edition(BOOK, """
    edition {
        kind put main (d size, e color) (b, a);
        kind twice main () (a, b);
        kind made main () (a);
        kind less main (c color) (a);
        kind none main () ();
        kind ask side (d color, e size) (u);
        kind odd side (c size) ();
        role r { mode m (q color) () []; start (p color) () { go m ($p) (); } }
        role s { mode n () () []; start () () { go n () (); } }
    }
""")
CHANGE = read_change(OLD, NEW, """
    change {
        kind put to put (c[red : big, green : big], $c) (b, a);
        kind twice to twice () (a, a);
        kind made to made () (up(a));
        kind less to less (green) (b);
        kind same to made () (b);
        kind ask to ask (red, big) (u);
        role r to r ($p) (); role s to s () ();
        row r m (green) to m (green) ();
    }
""")


class Trapped(unittest.TestCase):
    def test_in_order(self):
        self.assertEqual(trapped(freed(), "r"), [A, B, D, F, RED, GREEN, T])
        self.assertEqual(trapped(freed("f"), "r"), [D, RED, GREEN, T])
        self.assertEqual(trapped(freed("t", "d"), "r"), [])
        self.assertEqual(trapped(freed("a", "t"), "r"), [B, D, F])
        self.assertEqual(trapped(freed(), "s"), [])

    def test_unknown_roles(self):
        """First of all, whatever the value is."""
        for role in anythings() + ["q", "a", "self", True, 0, ("r",), None]:
            for ask in (lambda: trapped(freed(), role), lambda: judge_trap(freed(), role, 7)):
                with self.assertRaises(UnknownName) as caught:
                    ask()
                self.assertIs(caught.exception.name, role)

    def test_told_lists_are_new(self):
        trapped(freed(), "r").append(7)
        standing(CHANGE).append(7)
        self.assertNotIn(7, trapped(freed(), "r") + standing(CHANGE))


class Sets(unittest.TestCase):
    def test_trap_sets(self):
        one = freed("f")
        for value in ([], (), [D], (D,), [T], [T, D], (D, T), [RED, GREEN, T], [T, GREEN, RED, D], (GREEN, T, RED)):
            self.assertIs(judge_trap(one, "r", value), True, value)
        self.assertIs(judge_trap(one, "s", []), True)
        self.assertIs(judge_trap(freed("a"), "r", [T, RED, GREEN]), True)

    def test_no_trap_sets(self):
        """Twice, free, not reached, none at all, of another role; and some live port leads out by all arrows."""
        one = freed("f")
        for value in ([D, D], (T, D, T), [F], [D, F], [D, at("z")], [D, at("w", "blue")], [("s", "only", ())], [C], [A], [B],
                      [GREEN], [RED], [RED, T], [GREEN, RED], [A, B], D, [D, list(T)], [("r", "d", [])], {}, {D: 1}, "d", None, True,
                      [[D]], [D[:2]], [True], D + (D,), [(D, T)]):
            self.assertIs(judge_trap(one, "r", value), False, value)
        self.assertIs(judge_trap(freed("t"), "r", [T, RED, GREEN]), False)
        self.assertIs(judge_trap(freed(), "s", [("s", "only", ())]), False)
        self.assertIs(judge_trap(one, "s", [D]), False)

    def test_anything(self):
        for value in anythings() + [nested(40)]:
            self.assertIs(judge_trap(freed("f"), "r", value), value == [])
            self.assertIs(judge_trap(freed("f"), "r", [value]), False)
            self.assertIs(judge_trap(freed("f"), "r", (D, value)), False)
            self.assertIs(judge_trap(freed("f"), "r", [("r", value, ())]), False)

    def test_random_changes(self):
        chosen = random.Random(170)
        seen = {True: 0, False: 0}
        for one in some_changes(170, 120):
            change = one.with_rows([row for row in one.rows() if chosen.randrange(3) == 0])
            for role, _, _, _ in one.old().roles():
                greatest = trapped(change, role)
                self.assertEqual(greatest, [control for control, number in ranks(change, role) if number is None])
                self.assertIs(judge_trap(change, role, greatest), True)
                known = reached(one.old(), role)
                for _ in range(6):
                    value = chosen.sample(known, chosen.randrange(len(known) + 1))
                    answer = judge_trap(change, role, value)
                    self.assertIs(answer, plain_trap(change, value))
                    seen[answer] += 1
                    if answer:
                        self.assertLessEqual(set(value), set(greatest))
        self.assertGreater(min(seen.values()), 50)


def plain_trap(change, value):
    if any(change.row(control) for control in value):
        return False
    for control in value:
        ports = {}
        for source, kind, _, edge in arrows(change.old(), control[0]):
            if source == control:
                inside = edge[4][0] == "go" and (control[0],) + edge[4][1:3] in value
                ports.setdefault(change.old().kind(kind)[1], []).append(inside)
        if not all(any(told) for told in ports.values()):
            return False
    return True


class Standing(unittest.TestCase):
    def test_in_order(self):
        """A word that is never reached, a field used twice or lost in a primitive, kinds to which nothing leads.

        From made none comes back, but from same it does: its elder form has another field that is lost.
        """
        red = ("r", "m", ("red",))
        main = [(red, "main", "put", words) for words in (("small", "red"), ("small", "green"))]
        main += [(red, "main", "twice", ()), (red, "main", "less", ("red",)), (red, "main", "none", ())]
        side = [("side", "ask", words) for words in (("red", "small"), ("green", "small"), ("green", "big"))]
        side += [("side", "odd", ("small",)), ("side", "odd", ("big",))]
        self.assertEqual([rank(CHANGE, control) for control in (red, ("r", "n", ()), ("s", "n", ()))], [1, 2, 1])
        self.assertEqual(open_ports(CHANGE, red), ["main", "gone"])
        self.assertEqual(standing(CHANGE), main + [(("r", "n", ()),) + told for told in side] + [
            (("s", "n", ()),) + told for told in side])

    def test_free_and_trapped_controls_have_none(self):
        rows = [(control, "m", ("red",), ()) for control in (("r", "m", ("red",)), ("r", "m", ("green",)), ("r", "n", ()))]
        self.assertEqual({point[0] for point in standing(CHANGE.with_rows(rows))}, {("s", "n", ())})
        self.assertEqual(standing(CHANGE.with_rows(rows + [(("s", "n", ()), "n", (), ())])), [])
        self.assertEqual(standing(freed()), [])

    def test_the_port_gone(self):
        """Each message gone has an elder form."""
        one = freed("a", "t")
        self.assertEqual(open_ports(one, RED), ["gone"])
        self.assertEqual(standing(one), [])

    def test_elder_forms(self):
        """The same by a system: no message of these words has one, and each other one by an open port has."""
        told = {}
        for control, port, kind, words in standing(CHANGE):
            told.setdefault((control, port), []).append((kind, words))
        one = System(MEANING, [OLD, NEW], [CHANGE], [], [])
        for role in ("r", "s"):
            for control in reached(OLD, role):
                for port in open_ports(CHANGE, control):
                    points = told.get((control, port), [])
                    for kind in [kind for kind in NEW.kinds() if kind[1] == port]:
                        for words in markings(BOOK, kind[2]):
                            forms = elder_forms(one, (1, kind[0], words, tuple(range(3, 3 + len(kind[3])))))
                            self.assertEqual((kind[0], words) in points, forms == [], (control, kind, words))


if __name__ == "__main__":
    unittest.main()
