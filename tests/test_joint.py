"""movedactors.joint: where the codes begin, joint controls, arrivals and what happens at them."""

import random
import unittest

from movedactors.changes import Change
from movedactors.errors import NotNow, NotThere, UnknownName
from movedactors.joint import Joint
from movedactors.reader import read_change, read_edition
from plain_joint import Together, arrivals, meeting, reached, some_changes
from samples import SELF, anythings, change, given, nested, of, var
from world import BOOK

OLD = read_edition(BOOK, """
    edition {
        kind put main (c color) (a, b);
        kind ask side () (u);
        kind tell main (s size) (v);
        role cell {
            mode idle (r color) (x, y) [main, gone] heeds;
            mode busy () (z) [side];
            start (p color) (i, j) if p red { go idle ($p) (i, up(self)); } else { go busy () (j); }
            on idle put if c red {
                make k cell ($r) (x, a); make l kid () (); link a; link k; watch y;
                send l tell (small) (up(x)); send b put ($c) (y, k); go idle (green) (y, x);
            } else { send a ask () (x); stop; }
            on idle tell if s small { fail bad; } else { go busy () (v); }
            on idle gone { go idle (red) (who, x); }
            on busy ask { send u ask () (z); go idle (red) (z, u); }
        }
        role kid { mode only () () []; start () () { go only () (); } }
    }
""")
NEW_TEXT = """
    edition {
        kind set main (d color) (b, e);
        kind query side () (u);
        kind say main (t size) (v);
        role unit {
            mode rest (q color) (y, x) [main, gone] heeds;
            mode work () (z) [side];
            start (p color) (i, j) if p red { go rest ($p) (up(self), i); } else { go work () (j); }
            on rest set if d red {
                make m unit ($q) (x, e); make n kid () (); link e; link m; watch y;
                send n say (big) (up(x)); send b set ($d) (m, y); go rest (green) (x, y);
            } else { send e query () (x); stop; }
            on rest say if t big { fail bad; } else { go work () (v); }
            on rest gone { go rest (red) (x, who); }
            on work query { send u query () (z); go rest (red) (u, z); }
        }
        role kid { mode only () () []; start () () { go only () (); } }
    }
"""
CHANGE_TEXT = """
    change {
        kind put to set ($c) (b, a);
        kind ask to query () (u);
        kind tell to say (s[small : big, big : small]) (v);
        role cell to unit ($p) (i, j);
        role kid to kid () ();
        row cell idle (red) to rest (red) (y, x);
        row cell busy () to work () (z);
    }
"""


def joined(*replaced):
    """The Joint of the change to the new edition in which some texts are replaced by others."""
    text = NEW_TEXT
    for one, other in replaced:
        assert text.count(one) == 1, one
        text = text.replace(one, other)
    return Joint(read_change(OLD, read_edition(BOOK, text), CHANGE_TEXT))


def idle(color):
    return (("cell", "idle", (color,)), ("unit", "rest", (color,)))


BUSY = (("cell", "busy", ()), ("unit", "work", ()))
ONLY = (("kid", "only", ()), ("kid", "only", ()))
RED = ("put", ("red",))
NO_PAIRS = [
    (BUSY[0], idle("red")[1]), (idle("red")[0], idle("green")[1]), (BUSY[1], BUSY[0]), BUSY[:1], BUSY + BUSY, list(BUSY),
    (list(BUSY[0]), BUSY[1]), (BUSY[0], list(BUSY[1])), (("cell", "busy", []), BUSY[1]), (BUSY[0], ONLY[1]), (BUSY, BUSY),
    (ONLY[0], BUSY[1]), "cell", True, 0, (), (None, None),
]


def old(x):
    return var(("old", x))


def new(x):
    return var(("new", x))


def fld(x):
    return var(("field", x))


def kid(x):
    return var(("child", x))


class Beginnings(unittest.TestCase):
    def test_begun(self):
        self.assertEqual(joined().begun("cell"), [
            (("red",), idle("red"), (given("i"), of("up", SELF), of("up", SELF), given("i"))),
            (("green",), BUSY, (given("j"), given("j")))])
        self.assertEqual(joined().begun("kid"), [((), ONLY, ())])

    def test_changed_starts(self):
        """The new code begins with the changed start, by words of a table and by terms."""
        told = Joint(change()).begun("cell")
        term = of("up", given("i"))
        self.assertEqual(told, [
            (("red",), (("cell", "idle", ("red",)), ("unit", "work", ())), (given("i"), term, given("i"), term)),
            (("green",), (("cell", "busy", ()), ("unit", "work", ())), (of("pair", SELF, given("i")), given("i"), term)),
            (("blue",), (("cell", "busy", ()), ("unit", "work", ())), (of("pair", SELF, given("i")), given("i"), term))])

    def test_pairs(self):
        """Those of begun, and then those behind the arrivals of each one in turn."""
        self.assertEqual(joined().pairs("cell"), [idle("red"), BUSY, idle("green")])
        self.assertEqual(joined().pairs("kid"), [ONLY])
        told = joined(("go rest (green) (x, y)", "go rest (red) (x, y)"), ("go rest (red) (x, who)", "go work () (x)"))
        strange = (("cell", "idle", ("green",)), idle("red")[1])
        self.assertEqual(told.pairs("cell"), [idle("red"), BUSY, strange, (idle("red")[0], BUSY[1])])

    def test_change(self):
        one = joined()
        self.assertEqual(one.change(), joined().change())
        self.assertEqual(one.change().rows(), joined().change().rows())

    def test_unknown_roles(self):
        for role in anythings() + ["unit", "none", "idle", "self", True, 0, ("cell",), None]:
            for ask in (joined().begun, joined().pairs):
                with self.assertRaises(UnknownName) as caught:
                    ask(role)
                self.assertIs(caught.exception.name, role)


class Controls(unittest.TestCase):
    def test_variables(self):
        one = joined()
        self.assertEqual(one.variables(idle("red")), [("old", "x"), ("old", "y"), ("new", "y"), ("new", "x")])
        self.assertEqual(one.variables(BUSY), [("old", "z"), ("new", "z")])
        self.assertEqual(one.variables(ONLY), [])

    def test_arrivals(self):
        one = joined()
        self.assertEqual(one.arrivals(idle("green")), [
            ("put", ("red",)), ("put", ("green",)), ("tell", ("small",)), ("tell", ("big",)), ("gone", ("ended",)),
            ("gone", ("closed",)), ("gone", ("bad",)), ("gone", ("worse",))])
        self.assertEqual((one.arrivals(BUSY), one.arrivals(ONLY)), ([("ask", ())], []))

    def test_heeds(self):
        self.assertEqual([joined().heeds(pair) for pair in (idle("red"), BUSY)], [(True, True), (False, False)])
        one = joined(("[main, gone] heeds", "[main, gone]"), ("mode work () (z) [side]", "mode work () (z) [side] heeds"))
        self.assertEqual((one.heeds(idle("red")), one.heeds(BUSY)), ((True, False), (False, True)))

    def test_history_of(self):
        one = joined()
        self.assertEqual(one.history_of(idle("red")), ("cell", ("red",), ()))
        self.assertEqual(one.history_of(BUSY), ("cell", ("green",), ()))
        self.assertEqual(one.history_of(idle("green")), ("cell", ("red",), (RED,)))

    def test_told_lists_are_new(self):
        one = joined()
        for ask in (lambda: one.begun("cell"), lambda: one.pairs("cell"), lambda: one.variables(BUSY),
                    lambda: one.arrivals(BUSY)):
            told = ask()
            told.append(None)
            self.assertEqual(told[:-1], ask())

    def test_not_there(self):
        one = joined()
        for pair in NO_PAIRS + anythings() + [nested(40)]:
            for ask in (one.variables, one.arrivals, one.heeds, one.history_of, lambda pair: one.meeting(pair, 7, 7)):
                with self.assertRaises(NotThere) as caught:
                    ask(pair)
                self.assertIs(caught.exception.pair, pair)
        for value in anythings():
            for pair in ((value, BUSY[1]), (BUSY[0], value), (("cell", value, ()), BUSY[1]),
                         (BUSY[0], ("unit", "work", value))):
                with self.assertRaises(NotThere):
                    one.variables(pair)


class Meetings(unittest.TestCase):
    def test_demands_in_order(self):
        """Each child's things; the links; the watches; each send's receiver and things; the rows of S7.2."""
        one = joined()
        k, l = kid("k"), kid("l")
        told = (
            None,
            ((old("x"), new("x")), (fld("a"), fld("a")), (fld("a"), fld("a")), (k, k), (old("y"), new("y")), (l, l),
             (of("up", old("x")), of("up", new("x"))), (fld("b"), fld("b")), (k, k), (old("y"), new("y"))),
            (idle("green"), (old("y"), old("x"), new("x"), new("y"))),
        )
        self.assertEqual(one.meeting(idle("red"), "put", ("red",)), told)
        self.assertEqual(one.meeting(idle("red"), "put", ["red"]), told)
        self.assertEqual(one.meeting(idle("green"), "put", ("red",)), told)

    def test_where_the_edges_do_not_go_on(self):
        one = joined()
        self.assertEqual(one.meeting(idle("red"), "put", ("green",)), (
            None, ((fld("a"), fld("a")), (old("x"), new("x"))), None))
        self.assertEqual(one.meeting(idle("red"), "tell", ("small",)), (None, (), None))

    def test_that_go_on(self):
        one = joined()
        self.assertEqual(one.meeting(idle("red"), "gone", ("bad",)), (
            None, (), (idle("red"), (fld("who"), old("x"), new("x"), fld("who")))))
        self.assertEqual(one.meeting(BUSY, "ask", []), (
            None, ((fld("u"), fld("u")), (old("z"), new("z"))), (idle("red"), (old("z"), fld("u"), fld("u"), new("z")))))
        self.assertEqual(one.meeting(idle("red"), "tell", ("big",)), (None, (), (BUSY, (fld("v"), fld("v")))))

    def place(self, told, kind, words, *replaced, goes=None, pair=None):
        """The first place of an arrival, and whether it goes on all the same."""
        one = joined(*replaced)
        place, demands, going = one.meeting(pair or idle("red"), kind, words)
        self.assertEqual((place, going is not None), (told, bool(goes)))
        if told is not None:
            self.assertEqual(demands, ())
        self.assertEqual((place, demands, going), meeting(one.change(), pair or idle("red"), kind, words))

    def test_port(self):
        gone = ("on rest gone { go rest (red) (x, who); }", "")
        self.place("port", "gone", ("bad",), ("[main, gone]", "[main]"), gone)
        self.place("port", "put", ("red",), ("(y, x) [main, gone]", "(y, x) [gone]"),
                   (NEW_TEXT[NEW_TEXT.index("on rest set"):NEW_TEXT.index("on rest gone")], ""))

    def test_makes(self):
        link = ("link m;", "")
        self.place("makes", "put", ("red",), ("make n kid () ();", ""), ("send n say", "send m say"))
        self.place("makes", "put", ("red",), ("make n kid () ();", "make n kid () (); make o kid () ();"))
        self.place("makes", "put", ("red",), ("make n kid () ();", "make n unit (red) (x, y);"), goes=True)
        self.place("makes", "put", ("red",), ("make m unit ($q)", "make m unit (green)"), link, goes=True)
        self.place(None, "put", ("red",), ("make m unit ($q)", "make m unit (green)"), goes=True, pair=idle("green"))
        self.place("makes", "put", ("red",), ("make m unit ($q) (x, e); make n kid () ();",
            "make n kid () (); make m unit ($q) (x, e);"), goes=True)

    def test_names_with_equal_words(self):
        """Roles and kinds count, also where the words are the same."""
        kin = ("role kid {", "role kin { mode only () () []; start () () { go only () (); } } role kid {")
        self.place("makes", "put", ("red",), kin, ("make n kid () ();", "make n kin () ();"), goes=True)
        extra = (("kind query side () (u);", "kind query side () (u); kind extra main () (u);"),
                 ("on rest say if", "on rest extra { stop; } on rest say if"))
        self.place(None, "put", ("green",), *extra)
        self.place("sends", "put", ("green",), *extra, ("send e query () (x);", "send e extra () (x);"))

    def test_links_and_watches(self):
        self.place("links", "put", ("red",), ("link m;", ""), goes=True)
        self.place("links", "put", ("red",), ("link m;", "link m; link m;"), goes=True)
        self.place("links", "gone", ("bad",), ("on rest gone {", "on rest gone { link self;"), goes=True)
        self.place("watches", "put", ("red",), ("watch y;", ""), goes=True)
        self.place("watches", "gone", ("bad",), ("on rest gone {", "on rest gone { watch self;"), goes=True)
        self.place(None, "put", ("red",), ("link m;", "link x;"), ("watch y;", "watch m;"), goes=True)

    def test_sends(self):
        self.place("sends", "put", ("red",), ("send b set ($d) (m, y);", ""), goes=True)
        self.place("sends", "put", ("red",), ("send b set ($d) (m, y);", "send b query () (m);"), goes=True)
        self.place("sends", "put", ("red",), ("send n say (big)", "send n say (small)"), goes=True)
        self.place("sends", "put", ("green",), ("send e query () (x);", ""))
        self.place("sends", "gone", ("bad",), ("on rest gone {", "on rest gone { send x query () (y);"), goes=True)
        self.place("sends", "put", ("red",), ("send n say (big) (up(x)); send b set ($d) (m, y);",
            "send b set ($d) (m, y); send n say (big) (up(x));"), goes=True)
        self.place(None, "put", ("red",), ("send b set ($d) (m, y);", "send x set ($d) (y, y);"), goes=True)

    def test_end(self):
        self.place("end", "put", ("green",), ("{ send e query () (x); stop; }", "{ send e query () (x); fail bad; }"))
        self.place("end", "put", ("green",), ("stop;", "go rest (red) (x, y);"))
        self.place("end", "tell", ("small",), ("fail bad;", "fail worse;"))
        self.place("end", "tell", ("small",), ("fail bad;", "stop;"))
        self.place("end", "tell", ("big",), ("go work () (v);", "fail bad;"))
        self.place("end", "gone", ("bad",), ("go rest (red) (x, who);", "stop;"))
        self.place(None, "gone", ("bad",), ("go rest (red) (x, who);", "go work () (self);"), goes=True)

    def test_two_at_once(self):
        """The first place that applies, in the order of S7.2."""
        self.place("makes", "put", ("red",), ("make n kid () ();", "make n kid () (); make o kid () ();"), ("link m;", ""))
        self.place("links", "put", ("red",), ("link m;", ""), ("watch y;", ""), goes=True)
        self.place("links", "put", ("red",), ("link e; link m; watch y;", "link m;"), goes=True)
        self.place("watches", "put", ("red",), ("watch y;", ""), ("send n say (big)", "send n say (small)"), goes=True)
        self.place("sends", "put", ("green",), ("send e query () (x);", ""), ("stop;", "fail bad;"))
        self.place("makes", "put", ("green",), ("send e query () (x); stop;", "make o kid () (); stop;"))

    def test_not_now(self):
        """NotThere comes first; what is no arrival that comes next there is none."""
        one = joined()
        for kind, words in ((BUSY, ()), ("ask", ()), ("set", ("red",)), ("none", ()), ("put", ()), ("put", ("big",)),
                            ("put", ("red", "red")), ("put", "red"), ("put", {"red": 1}), ("gone", ()), ("main", ()),
                            ("gone", ("red",)), (["put"], ("red",)), (True, ("red",))):
            with self.assertRaises(NotNow):
                one.meeting(idle("red"), kind, words)
            with self.assertRaises(NotThere):
                one.meeting(NO_PAIRS[0], kind, words)
        for value in anythings():
            for kind, words in ((value, ("red",)), ("put", value), ("put", (value,)), (value, value)):
                with self.assertRaises(NotNow):
                    one.meeting(idle("red"), kind, words)
        with self.assertRaises(NotNow):
            one.meeting(ONLY, "gone", ("bad",))


class Chosen(unittest.TestCase):
    def test_against_plain_walks(self):
        seen = {}
        for one in some_changes(70, 150):
            joint = Joint(one)
            for role, _, _, _ in one.old().roles():
                told = reached(one, role)
                self.assertEqual(joint.pairs(role), list(told))
                begun = [Together(one, (role, words, ())).last() for words, _, _ in joint.begun(role)]
                self.assertEqual([row[1:] for row in joint.begun(role)], begun)
                for pair in told:
                    self.check_pair(one, joint, pair, seen)
        self.assertEqual(set(seen), {None, "port", "makes", "links", "watches", "sends", "end"})

    def check_pair(self, one, joint, pair, seen):
        walk = Together(one, joint.history_of(pair))
        self.assertEqual((walk.is_open(), walk.last()[0]), (True, pair))
        met = list(zip([stand[0] for stand in walk.old_stands], [stand[0] for stand in walk.new_stands]))
        self.assertEqual(len(met), len(set(met)))
        self.assertEqual(joint.arrivals(pair), arrivals(one, pair))
        self.assertEqual(len(joint.variables(pair)), len(walk.last()[1]))
        for arrival in joint.arrivals(pair):
            told = joint.meeting(pair, *arrival)
            self.assertEqual(told, meeting(one, pair, *arrival))
            seen[told[0]] = True

    def test_rows_do_not_matter(self):
        chosen = random.Random(4)
        for one in some_changes(71, 10):
            other = Joint(one.with_rows(chosen.sample(one.rows(), len(one.rows()) // 2)))
            joint = Joint(one)
            for role, _, _, _ in one.old().roles():
                self.assertEqual(joint.pairs(role), other.pairs(role))
                for pair in other.pairs(role):
                    self.assertEqual(joint.history_of(pair), other.history_of(pair))

    def test_whatever_was_asked_before(self):
        for one in some_changes(72, 10):
            first, last = Joint(one), Joint(one)
            for role, _, _, _ in reversed(one.old().roles()):
                last.pairs(role)
            for role, _, _, _ in one.old().roles():
                for pair in last.pairs(role):
                    self.assertEqual(first.history_of(pair), last.history_of(pair))
                    self.assertEqual(first.variables(pair), last.variables(pair))
        self.assertIsInstance(one, Change)


if __name__ == "__main__":
    unittest.main()
