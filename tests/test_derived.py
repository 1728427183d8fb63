"""movedactors.derived: controls that are met, derived moves, and refusals where there is none."""

import time
import unittest

from movedactors.controls import controls
from movedactors.defining import fitted, holders
from movedactors.derived import derived, derived_rows, met
from movedactors.errors import NoControl, UnknownName
from movedactors.histories import together
from movedactors.joint import Joint
from movedactors.obligations import decide_row
from movedactors.reader import read_change, read_edition
from movedactors.refusals import stands
from movedactors.walks import is_possible
from plain_joint import open_histories, some_changes
from randoms import remembering
from samples import SELF, anythings, nested, of, reg
from test_defining import CONTROL, making
from test_joint import BUSY, ONLY, idle, joined
from test_obligations import rings
from test_papers import LOOP_PAIR, looped
from test_refusals import losing, two_ways
from world import BOOK

HEAD = "edition { kind put main () (a, b); kind both main () (a); "


def single(old, new):
    """The Joint of a role with one mode m, told by its things, its start and what the two kinds do."""
    def edition(told):
        things, begun, put, both = told
        return read_edition(BOOK, HEAD + f"""
            role r {{ mode m () {things} [main]; start () (i, j) {{ go m () {begun}; }}
                      on m put {{ go m () {put}; }} on m both {{ go m () {both}; }} }} }}
        """)
    return Joint(read_change(edition(old), edition(new), """
        change { kind put to put () (a, b); kind both to both () (a); role r to r () (i, j); }
    """))


ROLE = ("r", "m", ())


class Base(unittest.TestCase):
    def moves(self, joint, control, mode, words, *terms):
        self.assertEqual(derived(joint, control), ("move", mode, words, terms))
        self.assertEqual(decide_row(joint, (control, mode, words, terms))[0], "right")

    def refuses(self, joint, control, word):
        """The refusal of a control that has no derived move."""
        refusal = derived(joint, control)
        self.assertEqual(refusal[0], word)
        self.assertIs(stands(joint, control, refusal), True, refusal)
        if word == "terms":
            self.assertLessEqual(len(refusal[2]), len(holders(joint, control)) + 1)
            self.assertGreaterEqual(len(refusal[2]), 1)
        return refusal


class Met(unittest.TestCase):
    def test_in_order(self):
        """In the order of the controls, not in that in which the codes come to them."""
        one = joined()
        self.assertEqual(met(one, "cell"), [idle("red")[0], idle("green")[0], BUSY[0]])
        self.assertEqual([pair[0] for pair in one.pairs("cell")], [idle("red")[0], BUSY[0], idle("green")[0]])
        self.assertEqual(met(one, "kid"), [ONLY[0]])
        stopped = joined(("link e; link m; watch y;", ""), ("go rest (green) (x, y);", "stop;"))
        self.assertEqual(met(stopped, "cell"), [idle("red")[0], BUSY[0]])
        self.assertEqual(met(two_ways(), "r"), [("r", "m", ()), ("r", "n", ())])
        self.assertEqual(met(looped(), "r"), [("r", "m", ())])

    def test_unknown_roles(self):
        for role in anythings() + ["unit", "none", "idle", "self", True, 0, ("cell",), None]:
            for ask in (met, derived_rows):
                with self.assertRaises(UnknownName) as caught:
                    ask(joined(), role)
                self.assertIs(caught.exception.name, role)

    def test_no_control(self):
        stopped = joined(("link e; link m; watch y;", ""), ("go rest (green) (x, y);", "stop;"))
        for control in anythings() + [idle("red")[1], BUSY, ("cell", "idle", ["red"]), ("cell", "idle"), True, (), None,
                                      list(BUSY[0]), ("cell", "idle", ("big",)), idle("green")[0], nested(40)]:
            with self.assertRaises(NoControl) as caught:
                derived(stopped, control)
            self.assertIs(caught.exception.control, control)


class Moves(Base):
    def test_renamed(self):
        one = joined()
        for color in ("red", "green"):
            self.moves(one, idle(color)[0], "rest", (color,), reg("y"), reg("x"))
        self.moves(one, BUSY[0], "work", (), reg("z"))
        self.moves(one, ONLY[0], "only", ())
        self.moves(looped(), LOOP_PAIR[0], "m", (), SELF, of("up", reg("x")))

    def test_exchanged_dropped_and_kept_twice(self):
        old = ("(x, y)", "(i, j)", "(y, a)", "(a, x)")
        for new, terms in (
            (("(u, v)", "(j, i)", "(b, u)", "(v, u)"), None), (("(u, v)", "(j, i)", "(a, u)", "(v, a)"), ("y", "x")),
            (("(v)", "(j)", "(a)", "(a)"), None), (("()", "()", "()", "()"), ()),
            (("(u, v, w)", "(i, j, i)", "(v, a, a)", "(a, u, a)"), None),
            (("(u, v)", "(j, up(i))", "(a, up(u))", "(nil(), up(a))"), None),
        ):
            one = single(old, new)
            if terms is None:
                self.refuses(one, ROLE, "terms")
            else:
                self.moves(one, ROLE, "m", (), *[reg(x) for x in terms])
        dropped = single(("(x, y)", "(i, j)", "(b, a)", "(a, a)"), ("(v)", "(j)", "(a)", "(a)"))
        self.moves(dropped, ROLE, "m", (), reg("y"))
        twice = single(("(x)", "(i)", "(a)", "(up(x))"), ("(u, v)", "(i, i)", "(a, a)", "(up(u), up(v))"))
        self.moves(twice, ROLE, "m", (), reg("x"), reg("x"))

    def test_made_of_several(self):
        """The new code keeps a pair of what the old one keeps apart; and the other way round it is forgotten."""
        apart = ("(x, y)", "(i, j)", "(b, x)", "(a, nil())")
        paired = ("(u)", "(pair(i, j))", "(pair(b, nil()))", "(pair(a, nil()))")
        self.refuses(single(apart, paired), ROLE, "terms")
        paired = ("(u)", "(pair(i, j))", "(pair(b, a))", "(pair(a, nil()))")
        apart = ("(x, y)", "(i, j)", "(b, a)", "(a, nil())")
        self.moves(single(apart, paired), ROLE, "m", (), of("pair", reg("x"), reg("y")))
        self.refuses(single(paired, apart), ROLE, "terms")

    def test_the_first_holder(self):
        """Both old registers hold the same, so it is the first one; a holder that holds the whole comes ahead of parts."""
        same = ("(x, y)", "(i, i)", "(a, a)", "(up(a), up(a))")
        new = ("(u)", "(pair(i, i))", "(pair(a, a))", "(pair(up(a), up(a)))")
        self.moves(single(same, new), ROLE, "m", (), of("pair", reg("x"), reg("x")))
        whole = ("(x, y)", "(pair(i, i), i)", "(pair(a, a), a)", "(pair(a, a), a)")
        new = ("(u)", "(pair(i, i))", "(pair(a, a))", "(pair(a, a))")
        self.moves(single(whole, new), ROLE, "m", (), reg("x"))

    def test_that_take_several_histories(self):
        """Behind the first history a holder holds it that does not behind others."""
        old = ("(x, y, z)", "(i, i, i)", "(a, b, a)", "(a, nil(), up(a))")
        new = ("(u, v)", "(i, pair(i, i))", "(a, pair(b, a))", "(up(a), pair(nil(), up(a)))")
        self.moves(single(old, new), ROLE, "m", (), reg("z"), of("pair", reg("y"), reg("z")))

    def test_controls(self):
        self.assertEqual(self.refuses(two_ways(), ("r", "m", ()), "controls")[1][2], ())
        self.refuses(joined(("go rest (red) (u, z);", "go rest (green) (u, z);")), idle("red")[0], "controls")

    def test_terms(self):
        self.assertEqual(self.refuses(losing(), ("r", "m", ()), "terms")[1:], ("v", (("r", (), ()),)))
        self.refuses(making(), CONTROL, "terms")
        self.assertEqual(self.refuses(making(), CONTROL, "terms")[1], "w")

    def test_rows(self):
        one = joined()
        self.assertEqual(derived_rows(one, "cell"), [
            (idle("red")[0], "rest", ("red",), (reg("y"), reg("x"))),
            (idle("green")[0], "rest", ("green",), (reg("y"), reg("x"))), (BUSY[0], "work", (), (reg("z"),))])
        self.assertEqual(derived_rows(one, "kid"), [(ONLY[0], "only", (), ())])
        self.assertEqual(derived_rows(two_ways(), "r"), [])
        self.assertEqual(derived_rows(losing(), "r"), [])
        two = joined(("go rest (red) (u, z);", "go rest (green) (u, z);"))
        self.assertEqual([row[0] for row in derived_rows(two, "cell")], [idle("green")[0], BUSY[0]])

    def test_tuples(self):
        for one, control in ((joined(), BUSY[0]), (losing(), ("r", "m", ())), (two_ways(), ("r", "m", ()))):
            told = derived(one, control)
            self.assertIsInstance(told, tuple)
            for part in told[1:]:
                self.assertIsInstance(part, (tuple, str))


class Chosen(Base):
    def test_random_changes(self):
        """The derived terms are fitted for all short histories, and a refusal tells an open history or more."""
        seen = {"move": 0, "terms": 0, "controls": 0, "several": 0}
        for one in some_changes(130, 100, (1, 1, 2, 3)) + remembering(133, 60):
            joint = Joint(one)
            for role, _, _, _ in one.old().roles():
                short = open_histories(one, role, 2)
                self.assertEqual(met(joint, role), [control for control in controls(one.old(), role)
                                                    if control in [pair[0] for pair in joint.pairs(role)]])
                for control in met(joint, role):
                    self.check(joint, control, short, seen)
                self.assertEqual(derived_rows(joint, role), [
                    (control,) + derived(joint, control)[1:] for control in met(joint, role)
                    if derived(joint, control)[0] == "move"])
        self.assertGreater(min(seen.values()), 5, seen)

    def check(self, joint, control, short, seen):
        told = derived(joint, control)
        seen[told[0]] += 1
        histories = [history for history in short if together(joint, history)[0][0] == control]
        pairs = {together(joint, history)[0] for history in histories}
        if told[0] == "move":
            self.moves(joint, control, *told[1:3], *told[3])
            self.assertLessEqual(len(pairs), 1)
            for history in histories:
                self.assertNotIn(None, fitted(joint, [history]))
            return
        self.refuses(joint, control, told[0])
        if told[0] == "controls":
            for _, (role, mode, words) in pairs:
                terms = tuple(SELF for _ in joint.change().new().mode(role, mode)[2])
                self.assertEqual(decide_row(joint, (control, mode, words, terms))[0], "wrong")
        else:
            seen["several"] += len(told[2]) > 1
            self.assertTrue(all(is_possible(joint.change().old(), history) for history in told[2]))

    def test_right_rows_are_derived_ones(self):
        """A right row for a control that is met has the mode and the words of its derived move."""
        many = 0
        for one in some_changes(131, 100, (0, 1, 2)):
            joint = Joint(one)
            for row in one.rows():
                if decide_row(joint, row)[0] == "right" and row[0] in met(joint, row[0][0]):
                    many += 1
                    told = derived(joint, row[0])
                    self.assertEqual(told[:3], ("move",) + row[1:3])
        self.assertGreater(many, 100)

    def test_rows_do_not_matter(self):
        for one in some_changes(132, 30, (1, 2)):
            joint, other = Joint(one), Joint(one.with_rows(one.rows()[:1]))
            for role, _, _, _ in one.old().roles():
                known = met(joint, role)
                told = [derived(joint, control) for control in known]
                self.assertEqual(told[::-1], [derived(other, control) for control in known[::-1]])
                self.assertEqual(derived_rows(joint, role), derived_rows(other, role))


class Limits(Base):
    def test_many_joint_controls(self):
        begun = time.time()
        one = rings(16, 16)
        for k, pair in enumerate(one.pairs("r")):
            self.moves(one, pair[0], pair[1][1], pair[1][2], *[reg(x) for x in "xyz"])
        two = rings(16, 16, last=("v", "w", "a"))
        for pair in two.pairs("r"):
            refusal = self.refuses(two, pair[0], "terms")
            self.assertLessEqual(max(len(history[2]) for history in refusal[2]), 100)
        three = rings(8, 7)
        for pair in three.pairs("r")[:8]:
            self.refuses(three, pair[0], "controls")
        self.assertLess(time.time() - begun, 20)


if __name__ == "__main__":
    unittest.main()
