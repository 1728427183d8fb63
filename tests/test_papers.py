"""movedactors.papers: which papers fit, and what they show."""

import random
import unittest

from movedactors.errors import UnknownName
from movedactors.histories import fails, together, unlike_place
from movedactors.joint import Joint
from movedactors.papers import fits, shows_alike, shows_row
from movedactors.reader import read_change, read_edition
from plain_joint import chosen_history, some_changes, sub
from samples import SELF, anythings, chain, given, of, reg, var
from test_joint import BUSY, ONLY, fld, idle, joined, kid, new, old
from world import BOOK

SAME = ((("new", "y"), old("y")), (("new", "x"), old("x")))
PAPER = ((idle("red"), SAME), (BUSY, ((("new", "z"), old("z")),)), (idle("green"), SAME))
EMPTY = tuple((pair, ()) for pair, _ in PAPER)
IDLE_ROW = (idle("red")[0], "rest", ("red",), (reg("y"), reg("x")))
BUSY_ROW = (BUSY[0], "work", (), (reg("z"),))

# The new register s holds the actor itself, and t what up makes of the old register x; nothing leads to the mode n.
LOOP = read_edition(BOOK, """
    edition {
        kind put main () (a);
        role r {
            mode m () (x) [main];
            mode n () (x) [main] heeds;
            start () (i) { go m () (i); }
            on m put { link self; watch up(x); go m () (a); }
            on n put { stop; }
        }
    }
""")
LOOP_NEW = read_edition(BOOK, """
    edition {
        kind put main () (a, b);
        role r {
            mode m () (s, t) [main];
            mode n () (x) [];
            start () (i) { go m () (self, up(i)); }
            on m put { link s; watch t; go m () (s, b); }
        }
    }
""")


def looped():
    return Joint(read_change(LOOP, LOOP_NEW, """
        change { kind put to put () (a, up(a)); role r to r () (i); row r m () to m () (self, up(x)); }
    """))


LOOP_PAIR = (("r", "m", ()), ("r", "m", ()))
LOOP_PAPER = ((LOOP_PAIR, ((("new", "s"), SELF), (("new", "t"), of("up", old("x"))))),)


def spoilt(k, *equations):
    """The paper in which one joint control has other equations."""
    return PAPER[:k] + ((PAPER[k][0], equations),) + PAPER[k + 1:]


class Fitting(unittest.TestCase):
    def test_that_fit(self):
        one = joined()
        for paper in (PAPER, PAPER[::-1], EMPTY, EMPTY[:1] + PAPER[1:2] + EMPTY[2:],
                      tuple((pair, equations[::-1]) for pair, equations in PAPER),
                      tuple((pair, tuple((term[1], var(variable)) for variable, term in equations))
                            for pair, equations in PAPER)):
            self.assertIs(fits(one, "cell", paper), True, paper)
        self.assertIs(fits(one, "kid", ((ONLY, ()),)), True)
        self.assertIs(fits(looped(), "r", LOOP_PAPER), True)

    def test_self_is_a_constant(self):
        for equations, answer in ((((("new", "s"), SELF),), True), (((("new", "t"), SELF),), False),
                                  (((("old", "x"), SELF),), False)):
            self.assertIs(fits(looped(), "r", ((LOOP_PAIR, equations),)), answer)

    def test_left_out(self):
        """A joint control at which the codes begin, or one behind an arrival."""
        for k in range(3):
            self.assertIs(fits(joined(), "cell", PAPER[:k] + PAPER[k + 1:]), False)
            self.assertIs(fits(joined(), "cell", EMPTY[:k] + EMPTY[k + 1:]), False)
        self.assertIs(fits(joined(), "cell", ()), False)
        self.assertIs(fits(joined(), "kid", ()), False)

    def test_not_reached_or_twice(self):
        for extra in ((idle("green")[0], idle("red")[1]), (idle("red")[0], BUSY[1]), ONLY):
            self.assertIs(fits(joined(), "cell", PAPER + ((extra, ()),)), False)
        for k in range(3):
            self.assertIs(fits(joined(), "cell", PAPER + PAPER[k:k + 1]), False)
            self.assertIs(fits(joined(), "cell", PAPER + EMPTY[k:k + 1]), False)
        self.assertIs(fits(joined(), "kid", PAPER), False)
        self.assertIs(fits(joined(), "kid", ((ONLY, ()), (BUSY, ()))), False)

    def test_variables(self):
        """No variable on both sides, none twice on the left, none but those of the joint control and ("self",)."""
        one = joined()
        y, x = SAME
        for equations in (
            (y, (("old", "y"), new("y"))), (y, x, (("old", "x"), of("up", new("x")))), ((("new", "x"), new("x")),),
            ((("new", "x"), of("up", new("x"))),), (y, y), (y, x, y), (y, (("old", "x"), old("y")), (("new", "x"), old("x"))),
            ((("new", "z"), old("x")),), ((("new", "x"), old("z")),), ((("self",), old("x")),), ((("old", "q"), old("x")),),
            ((("new", "y"), fld("a")),), ((("new", "y"), kid("k")),), ((("new", "y"), given("i")),),
            ((("new", "y"), var("self")),), ((("new", "y"), reg("y")),), ((("new", "y"), of("pair", old("y"), fld("a"))),),
            ((("register", "y"), old("y")),), (("y", old("y")),),
        ):
            self.assertIs(fits(one, "cell", spoilt(0, *equations)), False, equations)

    def test_wrong_equations_that_hold(self):
        """All else is right: the equations hold at the beginning and follow behind the arrivals."""
        y, x = SAME
        for equations in ((y, x, (("old", "y"), new("y"))), (y, x, x), (y, x, (("new", "x"), new("x")))):
            self.assertIs(fits(joined(), "cell", spoilt(0, *equations)), False)
        one = joined(("go rest (green) (x, y);", "go rest (green) (e, y);"))
        paper = EMPTY[:1] + PAPER[1:2] + ((idle("green"), ((("new", "y"), fld("a")),)),)
        self.assertEqual(one.meeting(idle("red"), "put", ("red",))[2][1][2], fld("a"))
        self.assertIs(fits(one, "cell", paper), False)
        one = joined(("go rest (green) (x, y);", "go rest (green) (up(m), y);"))
        paper = paper[:2] + ((idle("green"), ((("new", "y"), of("up", kid("k"))),)),)
        self.assertEqual(one.meeting(idle("red"), "put", ("red",))[2][1][2], of("up", kid("k")))
        self.assertIs(fits(one, "cell", paper), False)
        self.assertIs(fits(one, "cell", EMPTY[:1] + PAPER[1:2] + EMPTY[2:]), True)

    def test_terms(self):
        for term in (of("none", old("y")), of("up"), of("up", old("y"), old("y")), ("of", "up", [old("y")]), list(old("y")),
                     ("var", ["old", "y"]), ("old", "y"), ("var", ("old", "y"), 1), of("pair", old("y"), 1), True, 0):
            self.assertIs(fits(joined(), "cell", spoilt(0, (("new", "y"), term))), False)
        for term in anythings():
            self.assertIs(fits(joined(), "cell", spoilt(0, (("new", "y"), term))), False)
            self.assertIs(fits(joined(), "cell", spoilt(0, (("new", "y"), of("up", term)))), False)

    def test_that_does_not_hold_at_the_beginning(self):
        """All else is right: behind each arrival the equations follow."""
        begun = ("go rest ($p) (up(self), i);", "go rest ($p) (i, i);")
        self.assertIs(fits(joined(begun), "cell", PAPER), False)
        self.assertIs(fits(joined(begun), "cell", spoilt(0, SAME[1])), False)
        self.assertIs(fits(joined(begun), "cell", EMPTY), True)
        other = ("{ go work () (j); }", "{ go work () (i); }")
        self.assertIs(fits(joined(other), "cell", PAPER), False)
        self.assertIs(fits(joined(other), "cell", EMPTY), True)

    def test_that_does_not_follow(self):
        """All else is right: it holds at the beginning."""
        for spoilt_text in (("go rest (red) (x, who);", "go rest (red) (who, x);"),
                            ("go rest (red) (x, who);", "go rest (red) (x, up(who));"),
                            ("go rest (green) (x, y);", "go rest (green) (y, x);"), ("go work () (v);", "go work () (y);")):
            self.assertIs(fits(joined(spoilt_text), "cell", PAPER), False)
            self.assertIs(fits(joined(spoilt_text), "cell", EMPTY), True)
        # What holds at the beginning alone.
        self.assertIs(fits(joined(), "cell", spoilt(0, *SAME[1:], (("old", "y"), of("up", SELF)))), False)

    def test_that_follows_from_more_than_one(self):
        """Equations ahead of an arrival are taken together, in any order, and are solved."""
        swapped = ((("old", "x"), new("x")), (("old", "y"), new("y")))
        self.assertIs(fits(joined(), "cell", PAPER[:2] + ((idle("green"), swapped),)), True)
        self.assertIs(fits(joined(), "cell", PAPER[:2] + EMPTY[2:]), False)
        self.assertIs(fits(joined(), "cell", PAPER[:2] + ((idle("green"), SAME[:1]),)), False)

    def test_anything(self):
        one = joined()
        for value in anythings() + [True, 0, list(PAPER), "paper", PAPER[0], dict(PAPER[1:2]), None]:
            self.assertIs(fits(one, "cell", value), False)
            self.assertIs(shows_alike(one, "cell", value), False)
            self.assertIs(shows_row(one, IDLE_ROW, value), False)
            for paper in (PAPER + (value,), ((value, ()),) + PAPER, PAPER[:2] + ((PAPER[2][0], value),),
                          spoilt(0, value), spoilt(0, (value, old("y"))), spoilt(0, (("new", value), old("y"))),
                          PAPER[:2] + (PAPER[2] + (value,),), ((value, SAME),) + PAPER[1:],
                          (((value, idle("red")[1]), SAME),) + PAPER[1:]):
                self.assertIs(fits(one, "cell", paper), False)
        for paper in (PAPER[:2] + (list(PAPER[2]),), PAPER[:2] + ((PAPER[2][0], list(SAME)),),
                      PAPER[:2] + ((list(PAPER[2][0]), SAME),), spoilt(0, list(SAME[0])), spoilt(0, SAME[0] + (1,)),
                      spoilt(0, (["new", "y"], old("y")))):
            self.assertIs(fits(one, "cell", paper), False)

    def test_unknown_roles(self):
        for role in anythings() + ["unit", "none", "idle", True, 0, None, ("cell",)]:
            for ask in (fits, shows_alike):
                with self.assertRaises(UnknownName) as caught:
                    ask(joined(), role, 7)
                self.assertIs(caught.exception.name, role)


class Showing(unittest.TestCase):
    def test_rows(self):
        one = joined()
        for row in (IDLE_ROW, BUSY_ROW, (idle("green")[0], "rest", ("green",), (reg("y"), reg("x")))):
            self.assertIs(shows_row(one, row, PAPER), True)
            self.assertIs(shows_row(one, row, EMPTY), False)
            self.assertIs(shows_row(one, row, PAPER[:2]), False)
        for row in ((idle("red")[0], "rest", ("red",), (reg("x"), reg("y"))), (idle("red")[0], "work", (), (reg("x"),)),
                    (idle("red")[0], "rest", ("green",), (reg("y"), reg("x"))), (BUSY[0], "work", (), (of("up", reg("z")),)),
                    (BUSY[0], "work", (), (SELF,)), (BUSY[0], "rest", ("red",), (reg("z"), reg("z")))):
            self.assertIs(shows_row(one, row, PAPER), False)
        self.assertIs(shows_row(one, (ONLY[0], "only", (), ()), ((ONLY, ()),)), True)
        self.assertIs(shows_row(one, (ONLY[0], "only", (), ()), PAPER), False)

    def test_rows_with_self(self):
        one = looped()
        row = (LOOP_PAIR[0], "m", (), (SELF, of("up", reg("x"))))
        self.assertIs(shows_row(one, row, LOOP_PAPER), True)
        self.assertIs(shows_alike(one, "r", LOOP_PAPER), True)
        for equations in (LOOP_PAPER[0][1][:1], LOOP_PAPER[0][1][1:]):
            self.assertIs(fits(one, "r", ((LOOP_PAIR, equations),)), True)
            self.assertIs(shows_row(one, row, ((LOOP_PAIR, equations),)), False)
            self.assertIs(shows_alike(one, "r", ((LOOP_PAIR, equations),)), False)
        for terms in ((SELF, reg("x")), (reg("x"), of("up", reg("x"))), (SELF, SELF), (SELF, of("up", SELF))):
            self.assertIs(shows_row(one, row[:3] + (terms,), LOOP_PAPER), False)

    def test_the_whole_paper_has_to_fit(self):
        """The equations at the control of the row would show it."""
        one = joined()
        weak = PAPER[:1] + EMPTY[1:2] + PAPER[2:]
        self.assertIs(fits(one, "cell", weak), False)
        self.assertIs(shows_row(one, IDLE_ROW, weak), False)
        self.assertIs(shows_row(one, BUSY_ROW, EMPTY[:1] + PAPER[1:2] + EMPTY[2:]), True)

    def test_controls_that_are_not_reached(self):
        """A row for a control that no joint control of the paper has is shown by each paper that fits."""
        one = looped()
        row = (("r", "n", ()), "n", (), (reg("x"),))
        self.assertIs(shows_row(one, row, ((LOOP_PAIR, ()),)), True)
        self.assertIs(shows_row(one, row, ()), False)

    def test_alike(self):
        one = joined()
        self.assertIs(shows_alike(one, "cell", PAPER), True)
        self.assertIs(shows_alike(one, "kid", ((ONLY, ()),)), True)
        self.assertIs(shows_alike(one, "cell", EMPTY), False)
        self.assertIs(shows_alike(one, "cell", PAPER[:2]), False)
        for k in range(3):
            self.assertIs(shows_alike(one, "cell", PAPER[:k] + EMPTY[k:k + 1] + PAPER[k + 1:]), False)

    def test_unlike(self):
        """The paper fits, but the codes do not the same: by heeding, at a place, by a demand."""
        for spoilt_text in ((("(y, x) [main, gone] heeds", "(y, x) [main, gone]"),), (("link m;", ""),),
                            (("stop;", "fail bad;"),), (("fail bad;", "fail worse;"),), (("watch y;", "watch x;"),),
                            (("mode work () (z) [side]", "mode work () (z) [side] heeds"),), (("link e;", "link b;"),),
                            (("send e query () (x);", "send e query () (y);"),), (("link m;", "link n;"),),
                            (("[main, gone]", "[main]"), ("on rest gone { go rest (red) (x, who); }", ""))):
            one = joined(*spoilt_text)
            self.assertIs(fits(one, "cell", PAPER), True)
            self.assertIs(shows_alike(one, "cell", PAPER), False)
            self.assertIs(shows_row(one, IDLE_ROW, PAPER), True)

    def test_great_papers(self):
        """Deep terms may stand in papers."""
        deep = chain("up", old("y"), 60)
        self.assertIs(fits(joined(), "cell", spoilt(0, (("new", "y"), deep))), False)
        self.assertIs(shows_alike(joined(), "cell", spoilt(0, (("new", "y"), deep))), False)


def natural(joint, role):
    """The paper with what the rows of a change that renames say of each reached joint control."""
    found = []
    for pair in joint.pairs(role):
        row = joint.change().row(pair[0])
        equations = []
        news = [variable for variable in joint.variables(pair) if variable[0] == "new"]
        if pair[1][1] == row[1]:
            for variable, term in zip(news, row[3]):
                equations.append((variable, sub(term, lambda v: ("var", ("old", v[1])))))
        found.append((pair, tuple(equations)))
    return tuple(found)


class Chosen(unittest.TestCase):
    def test_renamed(self):
        for one in some_changes(90, 60, (0,)):
            joint = Joint(one)
            for role, _, _, _ in one.old().roles():
                paper = natural(joint, role)
                self.assertIs(shows_alike(joint, role, paper), True)
                for row in one.rows():
                    if row[0][0] == role:
                        self.assertIs(shows_row(joint, row, paper), True)

    def test_nothing_false_is_shown(self):
        chosen = random.Random(91)
        shown = {"fits": 0, "alike": 0, "row": 0, "nothing": 0}
        for one in some_changes(91, 150):
            joint = Joint(one)
            for role, _, _, _ in one.old().roles():
                paper = natural(joint, role)
                if chosen.randrange(3) == 0:
                    paper = tuple((pair, told[:-1]) for pair, told in paper)
                histories = [chosen_history(chosen, one, role, 5) for _ in range(8)]
                if not fits(joint, role, paper):
                    shown["nothing"] += 1
                    self.assertIs(shows_alike(joint, role, paper), False)
                    continue
                shown["fits"] += 1
                for history in histories:
                    self.check_equations(joint, dict(paper), history)
                if shows_alike(joint, role, paper):
                    shown["alike"] += 1
                    self.assertEqual([unlike_place(joint, history) for history in histories], [None] * 8)
                for row in one.rows():
                    if row[0][0] == role and shows_row(joint, row, paper):
                        shown["row"] += 1
                        self.assertFalse(any(fails(joint, row, history) for history in histories))
        self.assertGreater(min(shown.values()), 20)

    def check_equations(self, joint, table, history):
        """The equations of a paper that fits hold behind each open history."""
        if unlike_place(joint, history) is None:
            try:
                pair, terms = together(joint, history)
            except ValueError:
                return
            held = dict(zip(joint.variables(pair), terms))
            for variable, term in table[pair]:
                self.assertEqual(held[variable], sub(term, lambda v: held.get(v, ("var", v))))


if __name__ == "__main__":
    unittest.main()
