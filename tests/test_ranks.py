"""movedactors.ranks: ranks of controls, trapped controls and open ports."""

import random
import unittest

from movedactors.edges import arrows, reached
from movedactors.endings import easing_ports, judge_endless, judge_weights, weight
from movedactors.errors import NoControl, UnknownName
from movedactors.ranks import open_ports, rank, ranks
from movedactors.reader import read_change, read_edition
from movedactors.traps import judge_trap, trapped
from plain_joint import some_changes
from samples import SELF, anythings, nested
from test_joint import BUSY, idle, joined
from world import BOOK

# What leads where: each control is told by its mode and, for w, by its color.
TEXT = """
    edition {
        kind put main (c color) ();
        kind ask side () ();
        role r {
            mode a () () [main, side];
            mode b () () [side];
            mode c () () [gone];
            mode d () () [];
            mode f () () [main];
            mode w (q color) () [side, main, gone];
            mode t () () [side];
            mode z () () [main];
            start (p color) () if p red { go a () (); } else { go w (red) (); }
            on a put if c red { go b () (); } else { go c () (); }
            on a ask { go a () (); }
            on b ask { go f () (); }
            on c gone if why ended { stop; } else { fail bad; }
            on f put { go d () (); }
            on w put { go w ($c) (); }
            on w ask if q red { go w (green) (); } else { go t () (); }
            on w gone if why bad { go t () (); } else { go a () (); }
            on t ask { go t () (); }
            on z put { go z () (); }
        }
        role s { mode only () () [main]; start () () { go only () (); } on only put { stop; } }
    }
"""
CHANGE = "change { kind put to put ($c) (); kind ask to ask () (); role r to r ($p) (); role s to s () (); ROWS }"
OLD = read_edition(BOOK, TEXT)


def freed(*modes):
    """The change that has a row for these modes, or controls, of the role r."""
    rows = ""
    for mode in modes:
        name, _, word = mode.partition(" ")
        rows += f"row r {name} ({word}) to a () ();"
    return read_change(OLD, OLD, CHANGE.replace("ROWS", rows))


def at(mode, *words):
    return ("r", mode, words)


NAMES = [at("a"), at("b"), at("c"), at("d"), at("f"), at("w", "red"), at("w", "green"), at("t")]


def plain_ranks(change, role):
    """The least bounds on takes, found by making all bounds smaller until nothing changes."""
    old = change.old()
    known = reached(old, role)
    bounds = {control: 0 if change.row(control) else 99 for control in known}
    told = arrows(old, role)
    for _ in known:
        for control in known:
            if change.row(control):
                continue
            ports = {}
            for source, kind, _, edge in told:
                if source == control:
                    goal = bounds[(role,) + edge[4][1:3]] if edge[4][0] == "go" else 0
                    ports.setdefault(old.kind(kind)[1], []).append(goal)
            bounds[control] = min([bounds[control]] + [1 + max(goals) for goals in ports.values()])
    return [(control, None if bounds[control] > 90 else bounds[control]) for control in known]


class Ranks(unittest.TestCase):
    def check(self, change, *told):
        self.assertEqual(ranks(change, "r"), list(zip(NAMES, told)))
        self.assertEqual([rank(change, control) for control in NAMES], list(told))
        self.assertEqual(plain_ranks(change, "r"), ranks(change, "r"))

    def test_without_rows(self):
        """The mode c ends by all of its arrows; d has no live port; from w all ports can lead back to w or t."""
        self.check(freed(), None, None, 1, None, None, None, None, None)
        self.assertEqual(ranks(freed(), "s"), [(("s", "only", ()), 1)])

    def test_with_rows(self):
        self.check(freed("f"), 2, 1, 1, None, 0, None, None, None)
        self.check(freed("d"), 3, 2, 1, 0, 1, None, None, None)
        self.check(freed("a", "t"), 0, None, 1, None, None, 1, 1, 0)
        self.check(freed("b", "t"), 2, 0, 1, None, None, 2, 1, 0)
        self.check(freed("t", "d"), 3, 2, 1, 0, 1, 2, 1, 0)
        self.check(freed("w red", "w green"), None, None, 1, None, None, 0, 0, None)
        self.check(freed("w green", "f"), 2, 1, 1, None, 0, 1, 0, None)
        self.check(freed("a", "b", "c", "d", "f", "w red", "w green", "t"), *[0] * 8)
        self.check(freed("c", "b"), 1, 0, 0, None, None, None, None, None)

    def test_rows_of_controls_that_are_not_reached(self):
        self.assertEqual(ranks(freed("z"), "r"), ranks(freed(), "r"))

    def test_wrong_rows_count(self):
        """Right or not, a row makes a control free."""
        one = joined().change()
        wrong = one.with_rows([(BUSY[0], "work", (), (SELF,))])
        self.assertEqual(ranks(wrong, "cell"), [(idle("red")[0], None), (idle("green")[0], None), (BUSY[0], 0)])
        self.assertEqual(ranks(one, "cell"), [(idle("red")[0], 0), (idle("green")[0], 1), (BUSY[0], 0)])

    def test_the_port_gone(self):
        """A mode that takes nothing else waits for it: why it comes is not chosen."""
        self.assertEqual(rank(freed(), at("c")), 1)
        self.assertEqual(open_ports(freed(), at("c")), ["gone"])
        self.assertEqual(open_ports(freed("a", "t"), at("w", "red")), ["gone"])

    def test_open_ports(self):
        """In the order of the book, not in that of the mode; none at free and at trapped controls."""
        one = freed("t", "d")
        self.assertEqual([open_ports(one, control) for control in NAMES], [
            ["main"], ["side"], ["gone"], [], ["main"], ["side"], ["side"], []])
        two = freed("a", "w red", "w green", "t")
        self.assertEqual(open_ports(two, at("w", "red")), [])
        three = read_change(OLD, OLD, CHANGE.replace("ROWS", "row r a () to a () (); row r w (green) to a () (); "
            "row r t () to a () (); row r w (red) to a () ();")).with_rows([(at("a"), "a", (), ()), (at("t"), "a", (), ()),
            (at("w", "green"), "a", (), ())])
        self.assertEqual(open_ports(three, at("w", "red")), ["side", "gone"])
        for change in (freed(), freed("f"), two):
            for control, told in ranks(change, "r"):
                self.assertEqual(bool(open_ports(change, control)), told not in (0, None))

    def test_several_ports_in_order(self):
        text = """
            edition { kind put main () (); kind ask side () (); kind odd side () ();
                      role r { mode m () () [gone, side, main]; mode n () () [side]; start () () { go m () (); }
                               on m put { stop; } on m ask { stop; } on m odd { go n () (); } on m gone { fail bad; }
                               on n ask { stop; } on n odd { stop; } } }
        """
        edition = read_edition(BOOK, text)
        one = read_change(edition, edition, """
            change { kind put to put () (); kind ask to ask () (); kind odd to odd () (); role r to r () (); }""")
        self.assertEqual(open_ports(one, at("m")), ["main", "gone"])
        self.assertEqual(ranks(one, "r"), [(at("m"), 1), (at("n"), 1)])
        two = one.with_rows([(at("n"), "n", (), ())])
        self.assertEqual(open_ports(two, at("m")), ["main", "side", "gone"])

    def test_ports_by_which_no_kind_comes(self):
        """They are not live: a mode that takes nothing else is trapped; gone is live without any kind."""
        text = """
            edition { role r { mode m () () [side]; mode n () () [main, side, gone]; mode o () () [main, side];
                               start (p color) () if p red { go m () (); } else { go n () (); } HANDLERS } KINDS }
        """
        for kinds, handlers, numbers, ports in (
            ("", "on n gone { go m () (); }", [None, None], [[], []]), ("", "on n gone { stop; }", [None, 1], [[], ["gone"]]),
            ("kind put main () ();", "on n put { stop; } on n gone { go m () (); } on o put { stop; }", [None, 1], [[], ["main"]]),
        ):
            told = text.replace("HANDLERS", handlers).replace("KINDS", "").replace("edition {", "edition {" + kinds)
            edition = read_edition(BOOK, told)
            rows = "kind put to put () ();" if kinds else ""
            one = read_change(edition, edition, f"change {{ {rows} role r to r ($p) (); }}")
            self.assertEqual(ranks(one, "r"), list(zip((at("m"), at("n")), numbers)))
            self.assertEqual([open_ports(one, control) for control in (at("m"), at("n"))], ports)
            self.assertEqual(trapped(one, "r"), [control for control, number in ranks(one, "r") if number is None])
            self.assertIs(judge_trap(one, "r", [at("m")]), True)
            self.assertEqual([weight(one, control) for control in (at("m"), at("n"))], numbers)
            self.assertEqual([easing_ports(one, control) for control in (at("m"), at("n"))], ports)
            self.assertIs(judge_endless(one, [at("m")]), True)
            self.assertIs(judge_weights(one, [(at("m"), 1)]), False)

    def test_no_control(self):
        one = freed("f")
        for control in anythings() + [at("z"), at("w", "blue"), at("w"), ("s", "a", ()), ("r", "a", []), ("r", "a"), True,
                                      None, list(at("a")), ("q", "a", ()), nested(40), (at("a"), at("a"))]:
            for ask in (rank, open_ports):
                with self.assertRaises(NoControl) as caught:
                    ask(one, control)
                self.assertIs(caught.exception.control, control)

    def test_unknown_roles(self):
        for role in anythings() + ["q", "a", "self", True, 0, ("r",), None]:
            with self.assertRaises(UnknownName) as caught:
                ranks(freed(), role)
            self.assertIs(caught.exception.name, role)

    def test_told_lists_are_new(self):
        one = freed("f")
        for ask in (lambda: ranks(one, "r"), lambda: open_ports(one, at("a"))):
            ask().append(7)
            self.assertNotIn(7, ask())

    def test_random_changes(self):
        chosen = random.Random(150)
        seen = {}
        for one in some_changes(150, 150):
            change = one.with_rows([row for row in one.rows() if chosen.randrange(3) == 0])
            for role, _, _, _ in one.old().roles():
                told = ranks(change, role)
                self.assertEqual(told, plain_ranks(change, role))
                table = dict(told)
                for control, number in told:
                    seen[number] = True
                    self.check_ports(change, table, control)
        self.assertLessEqual({None, 0, 1, 2, 3}, set(seen))

    def check_ports(self, change, table, control):
        """Each arrow by an open port ends or leads to a lower rank; by each other live port some arrow does not."""
        old = change.old()
        ports = {}
        for source, kind, _, edge in arrows(old, control[0]):
            if source == control:
                goal = -1 if edge[4][0] != "go" else table[(control[0],) + edge[4][1:3]]
                ports.setdefault(old.kind(kind)[1], []).append(goal)
        told = open_ports(change, control)
        if table[control] in (0, None):
            self.assertEqual(told, [])
            return
        self.assertEqual(told, [port for port in BOOK.ports() if port in ports and all(
            goal is not None and goal < table[control] for goal in ports[port])])


if __name__ == "__main__":
    unittest.main()
