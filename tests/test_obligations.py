"""movedactors.obligations: roles and rows decided, with papers or with histories, and whole papers."""

import random
import time
import unittest

from movedactors.edges import reached
from movedactors.errors import BadPaper, UnknownName
from movedactors.histories import fails, unlike_place
from movedactors.joint import Joint
from movedactors.obligations import decide_role, decide_row, whole_paper
from movedactors.papers import fits, shows_alike, shows_row
from movedactors.reader import read_book, read_change, read_edition
from plain_joint import Together, arrivals, bound, open_histories, some_changes
from samples import SELF, anythings, of, reg
from test_joint import BUSY, idle, joined
from test_papers import BUSY_ROW, IDLE_ROW, LOOP_PAIR, looped
from world import BOOK

GREEN_ROW = (idle("green")[0], "rest", ("green",), (reg("y"), reg("x")))

# Each place of S7.5, what makes the codes unlike there, and the number of steps that show it.
UNLIKE = [
    ("heeds", 0, (("(y, x) [main, gone] heeds", "(y, x) [main, gone]"),)),
    ("heeds", 0, (("mode work () (z) [side]", "mode work () (z) [side] heeds"),)),
    ("port", 1, (("[main, gone]", "[main]"), ("on rest gone { go rest (red) (x, who); }", ""))),
    ("makes", 1, (("make n kid () ();", "make n kid () (); make o kid () ();"),)),
    ("makes", 1, (("make m unit ($q)", "make m unit (green)"),)),
    ("links", 1, (("link m;", ""),)),
    ("watches", 1, (("watch y;", ""),)),
    ("sends", 1, (("send n say (big)", "send n say (small)"),)),
    ("end", 1, (("fail bad;", "fail worse;"),)),
    ("end", 1, (("go work () (v);", "stop;"),)),
    ("terms", 1, (("link e;", "link b;"),)),
    ("terms", 1, (("send b set ($d) (m, y);", "send b set ($d) (y, m);"),)),
    ("terms", 1, (("send e query () (x);", "send e query () (y);"),)),
    ("terms", 2, (("go rest (red) (x, who)", "go rest (red) (who, x)"),)),
    ("terms", 2, (("go work () (v);", "go work () (y);"),)),
    ("terms", 1, (("go rest ($p) (up(self), i);", "go rest ($p) (i, i);"),)),
]

# Registers go round; the new ones are held in another order. What the old one sends is x alone.
RING = """
    edition {
        kind put main () (a);
        kind turn side () ();
        role r {
            mode m (c color) (x, y, z) [main, side];
            start () (i, j) { go m (red) (i, j, up(i)); }
            on m put if c red { go m (green) (x, y, a); } else { send a put () (x); go m (red) (x, y, z); }
            on m turn { go m ($c) (y, z, x); }
        }
    }
"""
RING_NEW = RING.replace("(x, y, z) [", "(w, u, v) [").replace("(i, j, up(i))", "(up(i), i, j)").replace(
    "(x, y, a)", "(a, u, v)").replace("() (x); go m (red) (x, y, z)", "() (u); go m (red) (w, u, v)").replace(
    "(y, z, x)", "(u, v, w)")


def ringed(*replaced):
    """The Joint of the ring with some replaced texts in the new edition."""
    text = RING_NEW
    for one, other in replaced:
        assert text.count(one) == 1, one
        text = text.replace(one, other)
    return Joint(read_change(read_edition(BOOK, RING), read_edition(BOOK, text), """
        change { kind put to put () (a); kind turn to turn () (); role r to r () (i, j);
                 row r m (red) to m (red) (z, x, y); row r m (green) to m (green) (z, x, y); }
    """))


class Base(unittest.TestCase):
    def alike(self, joint, role):
        told, paper = decide_role(joint, role)
        self.assertEqual(told, "alike")
        self.assertIs(shows_alike(joint, role, paper), True)

    def unlike(self, joint, role):
        """The history that shows that a role is not alike."""
        told, history = decide_role(joint, role)
        self.assertEqual(told, "unlike")
        self.assertIsNotNone(unlike_place(joint, history))
        self.assertEqual(history[0], role)
        self.assertLessEqual(len(history[2]), bound(joint, role))
        return history

    def right(self, joint, row):
        told, paper = decide_row(joint, row)
        self.assertEqual(told, "right", row)
        self.assertIs(shows_row(joint, row, paper), True)

    def wrong(self, joint, row):
        """The history that shows that a row is wrong."""
        told, history = decide_row(joint, row)
        self.assertEqual(told, "wrong", row)
        self.assertIs(fails(joint, row, history), True)
        self.assertIs(Together(joint.change(), history).is_open(), True)
        self.assertLess(len(history[2]), bound(joint, row[0][0]))
        return history


class Roles(Base):
    def test_alike(self):
        self.alike(joined(), "cell")
        self.alike(joined(), "kid")
        self.alike(looped(), "r")
        self.alike(ringed(), "r")

    def test_unlike_at_each_place(self):
        for place, many, replaced in UNLIKE:
            one = joined(*replaced)
            history = self.unlike(one, "cell")
            self.assertEqual((unlike_place(one, history), len(history[2])), (place, many), replaced)
            self.assertEqual(Together(one.change(), history).unlike_place(), place)
            self.alike(one, "kid")

    def test_what_nothing_leads_to(self):
        """A mode that no open history reaches does not count, whatever it is like."""
        self.alike(looped(), "r")
        self.assertEqual(looped().change().old().mode("r", "n")[4], True)

    def test_along_the_ring(self):
        """What is sent shows a register, and where it came from shows the others."""
        history = self.unlike(ringed(("(up(i), i, j)", "(i, i, j)")), "r")
        self.assertEqual(sorted(step[0] for step in history[2]), ["put", "put", "turn", "turn"])
        self.assertEqual(history[2][-1], ("put", ()))
        self.unlike(ringed(("(u, v, w)", "(w, v, u)")), "r")
        self.unlike(ringed(("(a, u, v)", "(w, u, v)")), "r")

    def test_unknown_roles(self):
        for role in anythings() + ["unit", "none", "idle", "self", True, 0, ("cell",), None, BUSY]:
            for ask in (lambda: decide_role(joined(), role), lambda: whole_paper(joined(), role, [])):
                with self.assertRaises(UnknownName) as caught:
                    ask()
                self.assertIs(caught.exception.name, role)


class Rows(Base):
    def test_right(self):
        one = joined()
        for row in (IDLE_ROW, BUSY_ROW, GREEN_ROW, (("kid", "only", ()), "only", (), ())):
            self.right(one, row)
        self.right(looped(), (LOOP_PAIR[0], "m", (), (SELF, of("up", reg("x")))))
        for row in ringed().change().rows():
            self.right(ringed(), row)

    def test_wrong(self):
        """Another mode, other words, other terms."""
        one = joined()
        for row in ((IDLE_ROW[0], "work", (), (reg("x"),)), (BUSY[0], "rest", ("red",), (reg("z"), reg("z"))),
                    (IDLE_ROW[0], "rest", ("green",), (reg("y"), reg("x"))), (BUSY[0], "work", (), (SELF,)),
                    (IDLE_ROW[0], "rest", ("red",), (reg("x"), reg("y"))), (BUSY[0], "work", (), (of("up", reg("z")),)),
                    (IDLE_ROW[0], "rest", ("red",), (reg("y"), of("nil")))):
            self.wrong(one, row)

    def test_wrong_behind_some_history_alone(self):
        """At first y holds up(self); then it does not any more. In the green control it holds what x held."""
        one = joined()
        row = IDLE_ROW[:3] + ((of("up", SELF), reg("x")),)
        self.assertIs(fails(one, row, ("cell", ("red",), ())), False)
        self.assertEqual(len(self.wrong(one, row)[2]), 1)
        spoilt = joined(("go rest (red) (u, z);", "go rest (red) (u, u);"))
        self.assertEqual(self.wrong(spoilt, IDLE_ROW), ("cell", ("green",), (("ask", ()),)))
        self.right(spoilt, BUSY_ROW)

    def test_right_by_another_equation_alone(self):
        """Both registers of the old mode hold the same, so either does; where they part, one is wrong."""
        text = """
            edition {
                kind put main () (a);
                role r {
                    mode m () (x, y) [main];
                    start () (i) { go m () (i, i); }
                    on m put { go m () (up(x), up(y)); }
                }
            }
        """
        for end, both in (("(up(x), up(y))", True), ("(up(x), y)", False), ("(a, a)", True), ("(a, x)", False)):
            edition = read_edition(BOOK, text.replace("(up(x), up(y))", end))
            one = Joint(read_change(edition, edition, "change { kind put to put () (a); role r to r () (i); }"))
            control = ("r", "m", ())
            self.right(one, (control, "m", (), (reg("x"), reg("y"))))
            for row in ((control, "m", (), (reg("y"), reg("x"))), (control, "m", (), (reg("x"), reg("x")))):
                if both:
                    self.right(one, row)
                else:
                    self.assertEqual(len(self.wrong(one, row)[2]), 1)

    def test_controls_that_are_not_reached(self):
        """Every row for one is right; also if the old edition reaches it, but no open history does."""
        self.right(looped(), (("r", "n", ()), "n", (), (reg("x"),)))
        self.right(looped(), (("r", "n", ()), "m", (), (SELF, SELF)))
        one = joined(("link e; link m; watch y;", ""), ("go rest (green) (x, y);", "stop;"))
        self.assertEqual(one.pairs("cell"), [idle("red"), BUSY])
        self.assertIn(idle("green")[0], reached(one.change().old(), "cell"))
        for mode, words, terms in (("rest", ("green",), (reg("y"), reg("x"))), ("rest", ("red",), (SELF, SELF)),
                                   ("work", (), (of("nil"),))):
            self.right(one, (idle("green")[0], mode, words, terms))

    def test_one_of_several_joint_controls(self):
        """The old control leads to two new ones, so no row for it is right; for the other controls some are."""
        one = joined(("go rest (red) (u, z);", "go rest (green) (u, z);"))
        self.assertEqual([pair[1][2] for pair in one.pairs("cell") if pair[0] == IDLE_ROW[0]], [("red",), ("green",)])
        for words in (("red",), ("green",)):
            self.wrong(one, IDLE_ROW[:2] + (words,) + IDLE_ROW[3:])
        self.right(one, BUSY_ROW)

    def test_equations_behind_several_arrivals(self):
        """One register of the row needs the others, several steps ahead."""
        one = ringed()
        for terms in ((reg("z"), reg("x"), reg("x")), (reg("x"), reg("x"), reg("y")), (reg("z"), reg("y"), reg("y"))):
            self.wrong(one, (("r", "m", ("red",)), "m", ("red",), terms))
        spoilt = ringed(("(up(i), i, j)", "(up(i), i, i)"))
        row = (("r", "m", ("red",)), "m", ("red",), (SELF, reg("x"), SELF))
        self.wrong(spoilt, row)
        for k in range(3):
            terms = list(one.change().rows()[0][3])
            terms[k] = of("up", terms[k])
            self.wrong(one, (("r", "m", ("red",)), "m", ("red",), tuple(terms)))


class Whole(Base):
    def test_alike(self):
        one = joined()
        other = IDLE_ROW[:3] + ((of("up", SELF), reg("x")),)
        for rows in ([], [IDLE_ROW], [IDLE_ROW, BUSY_ROW, GREEN_ROW], [BUSY_ROW, BUSY_ROW], (BUSY_ROW,)):
            paper = whole_paper(one, "cell", rows)
            self.assertIs(shows_alike(one, "cell", paper), True)
            for row in rows:
                self.assertIs(shows_row(one, row, paper), True)
        with self.assertRaises(BadPaper):
            whole_paper(one, "cell", [other])
        self.assertIs(shows_alike(one, "kid", whole_paper(one, "kid", [])), True)

    def test_two_rows_of_one_control(self):
        """Both are right, since both old registers hold the same."""
        text = """
            edition { kind put main () (a);
                      role r { mode m () (x, y) [main]; start () (i) { go m () (i, i); } on m put { go m () (a, a); } } }
        """
        edition = read_edition(BOOK, text)
        one = Joint(read_change(edition, edition, "change { kind put to put () (a); role r to r () (i); }"))
        rows = [(("r", "m", ()), "m", (), terms) for terms in ((reg("x"), reg("x")), (reg("y"), reg("x")))]
        paper = whole_paper(one, "r", rows)
        self.assertEqual([shows_row(one, row, paper) for row in rows], [True, True])

    def test_not_alike(self):
        """The paper shows the rows that are right all the same."""
        one = joined(("link m;", ""), ("go rest (red) (u, z);", "go rest (red) (u, u);"))
        self.unlike(one, "cell")
        for rows in ([], [BUSY_ROW], [BUSY_ROW, (("cell", "busy", ()), "work", (), (reg("z"),))]):
            paper = whole_paper(one, "cell", rows)
            self.assertIs(fits(one, "cell", paper), True)
            self.assertEqual([shows_row(one, row, paper) for row in rows], [True] * len(rows))
        for rows in ([IDLE_ROW], [BUSY_ROW, IDLE_ROW], [IDLE_ROW, BUSY_ROW]):
            with self.assertRaises(BadPaper):
                whole_paper(one, "cell", rows)


class Equal(Base):
    def test_whatever_was_asked_before(self):
        rows = [IDLE_ROW, BUSY_ROW, (BUSY[0], "work", (), (SELF,)), IDLE_ROW[:3] + ((reg("x"), reg("y")),)]
        for replaced in ((), (("link m;", ""),), (("go work () (v);", "go work () (y);"),)):
            one = joined(*replaced)
            told = [decide_row(one, row) for row in rows] + [decide_role(one, role) for role in ("cell", "kid")]
            again = [decide_role(one, role) for role in ("kid", "cell")] + [decide_row(one, row) for row in rows[::-1]]
            self.assertEqual(told, again[::-1])
            other = joined(*replaced)
            self.assertEqual(told[::-1], [decide_role(other, role) for role in ("kid", "cell")] + [
                decide_row(other, row) for row in rows[::-1]])

    def test_the_rows_of_the_change_do_not_matter(self):
        for one in some_changes(95, 30):
            joint, other = Joint(one), Joint(one.with_rows([]))
            for role, _, _, _ in one.old().roles():
                self.assertEqual(decide_role(joint, role), decide_role(other, role))
                self.assertEqual(whole_paper(joint, role, []), whole_paper(other, role, []))
            for row in one.rows():
                self.assertEqual(decide_row(joint, row), decide_row(other, row))


class Chosen(Base):
    def test_random_changes(self):
        """No history that is shorter shows it; and what is alike or right does not fail behind the short histories."""
        seen = {"alike": 0, "unlike": 0, "right": 0, "wrong": 0}
        for one in some_changes(96, 120):
            joint = Joint(one)
            for role, _, _, _ in one.old().roles():
                short = open_histories(one, role, 2)
                longer = [history[:2] + (history[2] + (arrival,),) for history in short if len(history[2]) < 2
                          for arrival in arrivals(one, Together(one, history).last()[0])]
                told, shown = decide_role(joint, role)
                seen[told] += 1
                many = 3 if told == "alike" else len(self.unlike(joint, role)[2])
                for history in short + longer:
                    if len(history[2]) < many and len(history[2]) < 3:
                        self.assertIsNone(unlike_place(joint, history))
                for row in one.rows():
                    if row[0][0] == role:
                        seen[decide_row(joint, row)[0]] += 1
                        self.check_row(joint, row, short)
        self.assertGreater(min(seen.values()), 20)

    def check_row(self, joint, row, short):
        told, shown = decide_row(joint, row)
        many = 3
        if told == "right":
            self.right(joint, row)
        else:
            many = len(self.wrong(joint, row)[2])
        self.assertFalse(any(fails(joint, row, history) for history in short if len(history[2]) < many))

    def test_whole_papers(self):
        chosen = random.Random(97)
        for one in some_changes(97, 60):
            joint = Joint(one)
            for role, _, _, _ in one.old().roles():
                rows = [row for row in one.rows() if row[0][0] == role]
                good = [row for row in rows if decide_row(joint, row)[0] == "right"]
                chosen.shuffle(good)
                paper = whole_paper(joint, role, good)
                self.assertTrue(all(shows_row(joint, row, paper) for row in good))
                self.assertIs(shows_alike(joint, role, paper), decide_role(joint, role)[0] == "alike")
                if len(good) < len(rows):
                    with self.assertRaises(BadPaper):
                        whole_paper(joint, role, rows)


FOUR = ("aa", "bb", "cc", "dd")
RING_BOOK = read_book("book { sort four aa bb cc dd; prim up 1; port main; }")


def ring_edition(many, names, begun, last, shown):
    """An edition whose role goes round through so many controls; each put exchanges registers, the last one more."""
    def leaf(k):
        follower = (k + 1) % many
        terms = last if follower == 0 else (names[1], names[2], names[0])
        send = f"send a put () ({names[0]});" if shown else ""
        return f"{{ {send} go m{follower // 4} ({FOUR[follower % 4]}) ({', '.join(terms)}); }}"

    def body(mode):
        told = [f"if c {FOUR[k % 4]} {leaf(k)} else" for k in range(4 * mode, min(4 * mode + 4, many))]
        return " ".join(told) + " { stop; }"

    modes = range((many + 3) // 4)
    told = "".join(f"mode m{k} (c four) ({', '.join(names)}) [main];" for k in modes)
    handlers = "".join(f"on m{k} put {body(k)}" for k in modes)
    start = f"start () (i, j) {{ go m0 (aa) ({', '.join(begun)}); }}"
    return read_edition(RING_BOOK, f"edition {{ kind put main () (a); role r {{ {told} {start} {handlers} }} }}")


def rings(many, more, begun=("i", "j", "i"), last=("v", "w", "u"), shown=True):
    """The Joint of a ring of so many controls and one of so many more."""
    old = ring_edition(many, ("x", "y", "z"), ("i", "j", "i"), ("y", "z", "x"), shown)
    new = ring_edition(more, ("u", "v", "w"), begun, last, shown)
    return Joint(read_change(old, new, "change { kind put to put () (a); role r to r () (i, j); }"))


class Limits(Base):
    def test_many_joint_controls(self):
        """T is 392: each of 8 old controls stands beside each of 7 new ones."""
        begun = time.time()
        one = rings(8, 7)
        pairs = one.pairs("r")
        self.assertEqual((len(pairs), bound(one, "r")), (56, 392))
        self.alike(one, "r")
        for pair in pairs:
            self.wrong(one, (pair[0],) + pair[1][1:] + ((reg("x"), reg("y"), reg("z")),))
        self.assertEqual(len(self.unlike(rings(8, 7, begun=("i", "i", "i")), "r")[2]), 2)
        self.assertEqual(len(self.unlike(rings(8, 7, last=("v", "w", "a")), "r")[2]), 10)
        self.assertLess(time.time() - begun, 20)

    def test_histories_that_go_round(self):
        """Behind the first history that leads there the row is right, behind a longer one it is not."""
        begun = time.time()
        one = rings(16, 16, last=("v", "w", "a"))
        for k in (0, 1, 7, 15):
            control, goal = one.pairs("r")[k]
            history = self.wrong(one, (control,) + goal[1:] + ((reg("x"), reg("y"), reg("z")),))
            self.assertEqual(history, ("r", (), (("put", ()),) * (k + 16)))
        self.assertLess(time.time() - begun, 20)


if __name__ == "__main__":
    unittest.main()
