"""movedactors.defining: holders, fitted terms, and whether a term fits."""

import random
import unittest

from movedactors.defining import fitted, holders, is_fitting
from movedactors.errors import BadPaper, BadTerm, NoControl, UnknownName
from movedactors.histories import together
from movedactors.joint import Joint
from movedactors.reader import read_change, read_edition
from movedactors.terms import wrong_part_over
from plain_joint import open_histories, some_changes, sub
from samples import SELF, anythings, chain, nested, of, reg, var
from test_histories import GONE, OPEN, TELL, no_histories
from test_joint import BUSY, ONLY, RED, idle, joined
from world import BOOK

# The new mode keeps what the old one makes of its registers, and more; the mode n is for the old one alone.
OLD = read_edition(BOOK, """
    edition {
        kind put main () (a, b);
        kind same main () (a);
        kind own main () ();
        role r {
            mode m () (x, y, z) [main];
            mode n () () [];
            start () (i, j) { go m () (i, j, pair(i, j)); }
            on m put { go m () (a, b, pair(a, b)); }
            on m same { go m () (a, a, nil()); }
            on m own { make k s () (); go m () (self, k, up(self)); }
        }
        role s { mode m () () []; start () () { go m () (); } }
    }
""")
NEW_TEXT = """
    edition {
        kind put main () (a, b);
        kind same main () (a);
        kind own main () ();
        role r {
            mode m () (u, v, w) [main];
            start () (i, j) { go m () (pair(i, up(j)), pair(i, j), nil()); }
            on m put { go m () (pair(a, up(b)), pair(a, b), up(a)); }
            on m same { go m () (pair(a, up(a)), pair(a, a), a); }
            on m own { make k s () (); go m () (pair(self, up(k)), pair(self, k), up(self)); }
        }
        role s { mode m () () []; start () () { go m () (); } }
    }
"""
CHANGE_TEXT = """
    change { kind put to put () (a, b); kind same to same () (a); kind own to own () ();
             role r to r () (i, j); role s to s () (); }
"""
CONTROL = ("r", "m", ())
PUT, SAME, OWN = ("put", ()), ("same", ()), ("own", ())


def making():
    return Joint(read_change(OLD, read_edition(BOOK, NEW_TEXT), CHANGE_TEXT))


def lives(*steps):
    return [("r", (), told) for told in steps]


def plain_fitted(rows, known, worths):
    """The fitted term for the terms behind several histories; rows has what the holders hold behind each."""
    for k, holder in enumerate(known):
        if all(row[k] == worth for row, worth in zip(rows, worths)):
            return ("var", holder)
    if all(worth[0] == "of" and worth[1] == worths[0][1] for worth in worths):
        members = [plain_fitted(rows, known, parts) for parts in zip(*[worth[2] for worth in worths])]
        return None if None in members else ("of", worths[0][1], tuple(members))
    return None


def held(joint, histories):
    """What the holders and the new registers hold behind histories to one joint control."""
    pair = together(joint, histories[0])[0]
    many = sum(variable[0] == "old" for variable in joint.variables(pair))
    told = [together(joint, history)[1] for history in histories]
    return [terms[:many] + (SELF,) for terms in told], [terms[many:] for terms in told]


class Holders(unittest.TestCase):
    def test_in_order(self):
        one = joined()
        self.assertEqual(holders(one, idle("green")[0]), [("register", "x"), ("register", "y"), ("self",)])
        self.assertEqual(holders(one, BUSY[0]), [("register", "z"), ("self",)])
        self.assertEqual(holders(one, ONLY[0]), [("self",)])

    def test_no_control(self):
        one = joined()
        stopped = joined(("link e; link m; watch y;", ""), ("go rest (green) (x, y);", "stop;"))
        for control in anythings() + [idle("red")[1], BUSY, ("cell", "idle", ["red"]), ("cell", "idle"), True, (), None,
                                      list(BUSY[0]), ("cell", "idle", ("big",)), ("unit", "work", ()), nested(40)]:
            with self.assertRaises(NoControl) as caught:
                holders(one, control)
            self.assertIs(caught.exception.control, control)
        self.assertEqual(len(holders(one, idle("green")[0])), 3)
        with self.assertRaises(NoControl):
            holders(stopped, idle("green")[0])
        with self.assertRaises(NoControl):
            holders(making(), ("r", "n", ()))


class Fitted(unittest.TestCase):
    def test_one_history(self):
        """A holder that holds it, also where it is made of what other holders hold; otherwise what it is made of."""
        x, y, z = reg("x"), reg("y"), reg("z")
        self.assertEqual(fitted(making(), lives(())), [of("pair", x, of("up", y)), z, of("nil")])
        self.assertEqual(fitted(making(), lives((PUT,))), [of("pair", x, of("up", y)), z, of("up", x)])
        self.assertEqual(fitted(making(), lives((SAME,))), [of("pair", x, of("up", x)), of("pair", x, x), x])
        self.assertEqual(fitted(making(), lives((OWN,))), [of("pair", x, of("up", y)), of("pair", x, y), z])
        self.assertEqual(fitted(making(), lives((PUT, OWN))), fitted(making(), lives((OWN,))))

    def test_several_histories(self):
        x, y, z = reg("x"), reg("y"), reg("z")
        first = of("pair", x, of("up", y))
        for steps, told in ((((), (PUT,)), [first, z, None]), (((), (SAME,)), [first, of("pair", x, y), None]),
                            (((SAME,), (SAME, SAME)), [of("pair", x, of("up", x)), of("pair", x, x), x]),
                            (((PUT,), (OWN,)), [first, of("pair", x, y), of("up", x)]),
                            (((PUT,), (SAME,), (OWN,)), [first, of("pair", x, y), None]),
                            (((PUT,), (PUT,)), [first, z, of("up", x)]),
                            (((), (PUT, SAME)), [first, of("pair", x, y), None])):
            self.assertEqual(fitted(making(), lives(*steps)), told, steps)
            self.assertEqual(fitted(making(), lives(*steps[::-1])), told, steps)
            self.assertEqual(fitted(making(), tuple(lives(*steps))), told, steps)

    def test_the_actor_itself(self):
        """("self",) is the last holder: a register that holds the actor comes first."""
        one = joined(("go rest (red) (x, who);", "go rest (red) (self, who);"))
        self.assertEqual(fitted(one, [("cell", ("red",), (GONE,))]), [SELF, reg("x")])
        self.assertEqual(fitted(one, [("cell", ("red",), ())]), [reg("y"), reg("x")])
        self.assertEqual(fitted(making(), lives((OWN,)))[0], of("pair", reg("x"), of("up", reg("y"))))

    def test_registers_without_one(self):
        one = joined(("go work () (v);", "go work () (y);"))
        self.assertEqual(fitted(one, [("cell", ("red",), (TELL,))]), [of("up", SELF)])
        self.assertEqual(fitted(one, [("cell", ("red",), (GONE, TELL))]), [None])
        self.assertEqual(fitted(one, [("cell", ("red",), (TELL,)), ("cell", ("green",), ())]), [None])
        one = joined(("go rest (red) (u, z);", "go rest (red) (u, u);"))
        asked = ("cell", ("green",), (("ask", ()),))
        self.assertEqual(fitted(one, [asked]), [reg("y"), reg("y")])
        self.assertEqual(fitted(one, [asked, ("cell", ("red",), ())]), [reg("y"), None])

    def test_bad_papers(self):
        one = joined()
        for histories in ([], (), [OPEN[0], OPEN[1]], [OPEN[0], OPEN[2]], [OPEN[0], OPEN[5]], OPEN, {}, "", None, 7, True,
                          [OPEN[0]] * 11 + [OPEN[1]], OPEN[0]):
            for ask in (lambda: fitted(one, histories), lambda: is_fitting(one, histories, 7, 7)):
                with self.assertRaises(BadPaper):
                    ask()
        for history in no_histories():
            for histories in ([history], [OPEN[0], history], [history, OPEN[0]]):
                with self.assertRaises(BadPaper):
                    fitted(one, histories)
        two = joined(("go rest (red) (u, z);", "go rest (green) (u, z);"))
        with self.assertRaises(BadPaper):
            fitted(two, [OPEN[0], ("cell", ("green",), (("ask", ()),))])
        self.assertEqual(fitted(one, [OPEN[0], ("cell", ("green",), (("ask", ()),))]), [reg("y"), reg("x")])

    def test_told_lists_are_new(self):
        one = joined()
        for ask in (lambda: fitted(one, OPEN[:1]), lambda: holders(one, BUSY[0])):
            ask().append(7)
            self.assertNotIn(7, ask())

    def test_deep_terms(self):
        text = """
            edition { kind put main () (a);
                      role r { mode m () (x, y) [main]; start () (i) { go m () (i, i); }
                               on m put { go m () (up(up(x)), up(up(up(y)))); } } }
        """
        edition = read_edition(BOOK, text)
        one = Joint(read_change(edition, edition, "change { kind put to put () (a); role r to r () (i); }"))
        history = ("r", (), (PUT,) * 60)
        self.assertEqual(fitted(one, [history]), [reg("x"), reg("y")])
        self.assertEqual(fitted(one, [history, ("r", (), (PUT,) * 59)]), [reg("x"), reg("y")])
        self.assertIs(is_fitting(one, [history], "y", chain("up", reg("x"), 60)), True)
        self.assertIs(is_fitting(one, [history], "y", chain("up", reg("x"), 59)), False)


class Fitting(unittest.TestCase):
    def test_that_fit(self):
        """Also terms that are not the fitted one."""
        x, y, z = reg("x"), reg("y"), reg("z")
        for steps, name, terms in (
            (((),), "v", (z, of("pair", x, y))), (((PUT,), ()), "v", (z, of("pair", x, y))),
            (((SAME,),), "w", (x, y)), (((SAME,),), "u", (of("pair", y, of("up", x)), of("pair", x, of("up", y)))),
            (((OWN,),), "w", (z, of("up", x), of("up", SELF))), (((),), "w", (of("nil"),)),
        ):
            for term in terms:
                self.assertIs(is_fitting(making(), lives(*steps), name, term), True, (steps, name, term))

    def test_that_do_not(self):
        x, y, z = reg("x"), reg("y"), reg("z")
        for steps, name, terms in (
            (((),), "v", (x, of("pair", y, x), of("pair", x, x), SELF, of("nil"))), (((SAME,), ()), "v", (z, of("pair", x, x))),
            (((PUT,), (SAME,)), "w", (x, y, of("up", x), of("nil"))), (((OWN,),), "w", (SELF, of("up", y))),
            (((OWN,), (PUT,)), "w", (z, of("up", SELF))),
        ):
            for term in terms:
                self.assertIs(is_fitting(making(), lives(*steps), name, term), False, (steps, name, term))

    def test_unknown_names(self):
        """After the errors of fitted, ahead of those of the term."""
        for name in anythings() + ["x", "r", "self", ("register", "u"), True, 0, None, ("new", "u")]:
            with self.assertRaises(UnknownName) as caught:
                is_fitting(making(), lives(()), name, 7)
            self.assertIs(caught.exception.name, name)
            with self.assertRaises(BadPaper):
                is_fitting(making(), lives((TELL,)), name, 7)

    def test_bad_terms(self):
        """The path of the first wrong part; a variable that is no holder is one."""
        x, bad = reg("x"), reg("q")
        for term, path in (
            (bad, ()), (of("pair", x, bad), (1,)), (of("pair", of("up", bad), bad), (0, 0)), (var("x"), ()),
            (of("up"), ()), (of("none", x), ()), (("of", "up", [x]), ()), (of("up", list(x)), (0,)), (of("pair", x), ()),
            (var(("old", "x")), ()), (var(("new", "u")), ()), (var(("given", "i")), ()), (var(("field", 0, "a")), ()),
            (var(("register", "u")), ()), (var(("register", "x", "x")), ()), (var(("self", "self")), ()), (var("self"), ()),
            (of("pair", of("none"), of("up")), (0,)), (("var", ("register", "x"), 1), ()), (of("nil", x), ()), ((), ()),
            (var(["register", "x"]), ()), (True, ()), (of("pair", of("up", of("up", 0)), bad), (0, 0, 0)), (None, ()),
            (chain("up", bad, 60), (0,) * 60),
        ):
            with self.assertRaises(BadTerm) as caught:
                is_fitting(making(), lives((PUT,)), "u", term)
            self.assertEqual(caught.exception.path, path, term)
            self.assertEqual(wrong_part_over(BOOK.primitives(), holders(making(), CONTROL), term), path)
        for value in anythings():
            for term, path in ((value, ()), (of("pair", x, value), (1,)), (var(value), ()), (var(("register", value)), ()),
                               (("of", value, (x,)), ()), (("of", "up", value), ())):
                with self.assertRaises(BadTerm) as caught:
                    is_fitting(making(), lives((PUT,)), "v", term)
                self.assertEqual(caught.exception.path, path)


class Chosen(unittest.TestCase):
    def test_random_changes(self):
        chosen = random.Random(110)
        seen = {"fits": 0, "none": 0, "made": 0}
        for one in some_changes(110, 120, (1, 2, 3)):
            joint = Joint(one)
            for role, _, _, _ in one.old().roles():
                table = {}
                for history in open_histories(one, role, 2):
                    table.setdefault(together(joint, history)[0], []).append(history)
                for pair, histories in table.items():
                    for many in (1, 2, 5):
                        self.check(joint, chosen.sample(histories, min(many, len(histories))), seen)
        self.assertGreater(min(seen.values()), 20, seen)

    def check(self, joint, histories, seen):
        pair = together(joint, histories[0])[0]
        known = holders(joint, pair[0])
        rows, registers = held(joint, histories)
        names = [x for word, x in joint.variables(pair) if word == "new"]
        told = fitted(joint, histories)
        for k, term in enumerate(told):
            worths = [row[k] for row in registers]
            self.assertEqual(term, plain_fitted(rows, known, worths))
            seen["none" if term is None else "made" if term[0] == "of" else "fits"] += 1
            if term is not None:
                self.assertIs(is_fitting(joint, histories, names[k], term), True)
            for other in [("var", holder) for holder in known]:
                fits = all(sub(other, dict(zip(known, row)).get) == worth for row, worth in zip(rows, worths))
                self.assertIs(is_fitting(joint, histories, names[k], other), fits)


if __name__ == "__main__":
    unittest.main()
