"""movedactors.converse: partings of changes that are not closed."""

import random
import unittest

from movedactors.alike import is_closed, part_trees
from movedactors.choices import can, make, make_all, open_choices
from movedactors.converse import judge_change, part_change
from movedactors.errors import BadSystem, NotNow
from movedactors.meanings import Meaning
from movedactors.reader import read_change, read_edition
from movedactors.systems import System
from movedactors.views import raised_log, seen_alike, twin_of
from plain_joint import some_changes
from plain_parting import change_difference, slot_actors
from randoms import random_rows, random_run, remembering
from samples import SELF, anythings, nested, of, part_of, reg, replaced
from test_alike import change as tree_change, with_tree
from test_joint import BUSY, CHANGE_TEXT, NEW_TEXT, OLD, idle, joined
from test_obligations import UNLIKE, rings
from test_views import TO_CLEVER
from world import BOOK, MEANING, TO_SECOND, TO_THIRD

TREE = "supervisor top one 1 { slot 1 cell (red) (nil(), up(nil())); slot 150 kid () (); } }"
NEW_TREE = TREE.replace("cell", "unit")


def slotted(*others):
    """The change of joined, with slots in both trees."""
    text = NEW_TEXT
    for one, other in others:
        assert text.count(one) == 1, one
        text = text.replace(one, other)
    old = type(OLD)(BOOK, OLD.kinds()[:-1], OLD.roles(), read_edition(BOOK, with_roles(TREE)).tree())
    new = text.rstrip()[:-1] + NEW_TREE
    return read_change(old, read_edition(BOOK, new), CHANGE_TEXT)


def with_roles(tree):
    return """edition { role cell { mode m () () []; start (p color) (i, j) { go m () (); } }
                        role kid { mode m () () []; start () () { go m () (); } } """ + tree


class Base(unittest.TestCase):
    def parts(self, one):
        """The parting of a change that is not closed."""
        self.assertIs(is_closed(one), False)
        value = part_change(one)
        self.assertEqual([type(part) for part in value], [Meaning, tuple, tuple, tuple])
        self.assertTrue(all(len(row) == 5 for row in value[2]))
        self.assertIs(change_difference(one, value), True)
        self.assertIs(judge_change(one, value), True)
        return value


class Partings(Base):
    def test_unlike_at_each_place(self):
        for _, _, others in UNLIKE:
            self.parts(joined(*others).change())
            self.parts(slotted(*others))

    def test_heeds(self):
        """It is seen by another actor that goes; also if the codes part only behind some steps."""
        value = self.parts(slotted(("(y, x) [main, gone] heeds", "(y, x) [main, gone]")))
        self.assertEqual([choice[0] for choice in value[3]], ["link", "kill"])
        value = self.parts(slotted(("go work () (v);", "go rest (red) (v, v);")))
        self.assertEqual(value[3][-1][0], "kill")
        self.parts(joined(("mode only () () [];", "mode only () () [] heeds;")).change())

    def test_wrong_rows(self):
        one = slotted()
        for row in ((BUSY[0], "work", (), (SELF,)), (BUSY[0], "work", (), (of("up", reg("z")),)), (BUSY[0], "rest", ("red",), (reg("z"),) * 2),
                    (idle("red")[0], "rest", ("green",), (reg("y"), reg("x"))), (idle("green")[0], "rest", ("green",), (reg("x"), reg("y")))):
            value = self.parts(one.with_rows([row]))
            self.assertEqual(value[3][-1][0], "move")
        self.parts(one.with_rows([one.rows()[0], (BUSY[0], "work", (), (of("nil"),))]))
        # Wrong only behind a long history.
        joint = rings(16, 16, last=("v", "w", "a"), shown=False)
        pair = joint.pairs("r")[5]
        row = (pair[0],) + pair[1][1:] + ((reg("x"), reg("y"), reg("z")),)
        self.assertEqual(len(self.parts(joint.change().with_rows([row]))[3]), 3 * 21 + 1)

    def test_supervisors(self):
        for others in (("top one 2", "top one 3"), ("low all", "low behind"), ("1 r (red)", "1 r (green)")):
            one = tree_change(others)
            meaning, kills = part_trees(one)
            self.assertEqual(self.parts(one), (meaning, (), tuple(slot_actors(one, meaning)), tuple(
                ("kill", address, "closed") for address in kills)))

    def test_other_changes(self):
        for one in (TO_SECOND, TO_THIRD):
            self.parts(one)
            self.parts(one.with_rows([]))

    def test_closed(self):
        for one in (TO_CLEVER, joined().change(), slotted(), tree_change(), slotted().with_rows([])):
            self.assertIs(is_closed(one), True)
            self.assertIsNone(part_change(one))

    def test_equal_values(self):
        for make_one in (lambda: TO_SECOND, lambda: slotted(("link m;", "")), lambda: tree_change(("top one 2", "top one 3"))):
            self.assertEqual(part_change(make_one()), part_change(make_one()))

    def test_random_changes(self):
        chosen = random.Random(230)
        counts = {True: 0, False: 0}
        for one in some_changes(231, 120, (0, 0, 1, 2)) + remembering(232, 60):
            one = with_tree(chosen, one) if chosen.randrange(3) == 0 else one
            counts[is_closed(one)] += 1
            if is_closed(one):
                self.assertIsNone(part_change(one))
            else:
                self.parts(one)
        self.assertGreater(min(counts.values()), 30)


class Judging(Base):
    def test_one_choice_more_or_less(self):
        for one in (slotted(("link m;", "link n;")), slotted().with_rows([(BUSY[0], "work", (), (SELF,))]),
                    tree_change(("top one 2", "top one 3")), slotted(("(y, x) [main, gone] heeds", "(y, x) [main, gone]"))):
            meaning, supply, actors, choices = self.parts(one)
            told = {True: 0, False: 0}
            for k in range(len(choices) + 1):
                more = [choices[:k] + choices[k + 1:], choices[:k]]
                more += [choices[:k] + (other,) + choices[k:] for other in (("move", 1), ("shift", "top"), ("kill", 1, "bad"), ("link", 1, 1))]
                for other in more:
                    value = (meaning, supply, actors, other)
                    try:
                        answer = change_difference(one, value)
                    except NotNow:
                        answer = False
                    self.assertIs(judge_change(one, value), answer, value)
                    told[answer] += 1
            self.assertGreater(min(told.values()), 0)

    def test_other_parts(self):
        one = slotted(("link m;", "link n;"))
        meaning, supply, actors, choices = self.parts(one)
        self.assertIs(judge_change(one, (Meaning({}), supply, actors, choices)), True)
        self.assertIs(judge_change(one, (meaning, supply[:1] + (9999,), actors, choices)), True)
        self.assertIs(judge_change(one, (meaning, (), actors, choices)), True)
        extra = actors + ((7777, 1, "kid", (), ()),)
        self.assertIs(judge_change(one, (meaning, supply, extra, choices)), True)
        for other in (actors[1:], actors[:-1], actors + actors[:1], actors + ((7777, 2, "kid", (), ()),), actors + ((7777, 0, "kid", ()),),
                      actors[:-1] + (actors[-1] + ((("cell", "busy", ()), (5,)),),), actors + ((7777, 0, "kid", (), (), (("kid", "only", ()), ())),),
                      tuple(list(row) for row in actors), ()):
            self.assertIs(judge_change(one, (meaning, supply, other, choices)), False)
        for other in (supply + supply, supply + (actors[0][0],), (0,), (True,), ("x",), ((1,),)):
            self.assertIs(judge_change(one, (meaning, other, actors, choices)), False)
        self.assertIs(judge_change(one, (meaning, supply, actors, ())), False)
        self.assertIs(judge_change(slotted(), (meaning, supply, actors, choices)), False)

    def test_what_the_logs_alone_tell(self):
        """The actor goes at last, and its links with it: the views are equal then."""
        one = slotted(("link e;", "link b;"))
        meaning, supply, actors, choices = self.parts(one)
        own = actors[-1][0]
        value = (meaning, supply, actors, choices + (("kill", own, "ended"),))
        system = System(meaning, [one.old(), one.new()], [one], supply, actors)
        make_all(system, value[3])
        twin = twin_of(system)
        self.assertIs(seen_alike(system, twin), True)
        self.assertNotEqual(raised_log(system), raised_log(twin))
        self.assertIs(judge_change(one, value), True)

    def test_lists(self):
        """A list does not stand for a tuple."""
        one = slotted(("link m;", "link n;"))
        value = self.parts(one)
        for path in [(k,) for k in (1, 2, 3)] + [(2, 0), (2, 0, 3), (2, 0, 4), (3, 0), (3, 0, 2), (3, 0, 2, 2), (3, 0, 2, 3), (3, 1)]:
            self.assertIs(judge_change(one, replaced(value, path, list(part_of(value, path)))), False, path)
        self.assertIs(judge_change(one, list(value)), False)

    def test_anything(self):
        one = slotted(("link m;", "link n;"))
        value = self.parts(one)
        for other in anythings() + [True, 0, None, (), value[1:], value + ((),), nested(30), value[0]]:
            self.assertIs(judge_change(one, other), False)
        for other in anythings() + [True, 0, -1, None, "x", (1,)]:
            for path in ((0,), (1,), (2,), (3,), (2, 0), (2, 0, 0), (2, 0, 1), (2, 0, 2), (2, 0, 3), (2, 0, 4), (3, 0), (3, 0, 0),
                         (3, 0, 1), (3, 0, 2), (3, 1), (3, 1, 1), (3, 2, 2)):
                if not isinstance(other, Meaning) and not (other == 0 and part_of(value, path) == 0 and other is not False):
                    self.assertIs(judge_change(one, replaced(value, path, other)), False, (path, other))
            self.assertIs(judge_change(one, value[:3] + (value[3] + (other,),)), False)

    def test_random_systems(self):
        """No run of a system with a closed change is a parting; with others, what is judged is what a twin tells."""
        chosen = random.Random(233)
        counts = {True: 0, False: 0}
        for one in some_changes(234, 120, (0, 3, 4)) + remembering(235, 20):
            editions = [one.old(), one.new()]
            rows = tuple(random_rows(chosen, editions))
            system = System(MEANING, editions, [one], (30,), rows)
            random_run(chosen, system, 30, make, open_choices, can)
            value = (MEANING, (30,), rows, tuple(row[0] for row in system.log()))
            answer = judge_change(one, value)
            self.assertIs(answer, change_difference(one, value))
            counts[answer] += 1
            if is_closed(one):
                self.assertIs(answer, False)
        self.assertGreater(min(counts.values()), 5, counts)

    def test_choices_may_be_made(self):
        """Also the choices of a long parting."""
        joint = rings(16, 16, last=("v", "w", "a"), shown=False)
        pair = joint.pairs("r")[15]
        one = joint.change().with_rows([(pair[0],) + pair[1][1:] + ((reg("x"), reg("y"), reg("z")),)])
        meaning, supply, actors, choices = self.parts(one)
        system = System(meaning, [one.old(), one.new()], [one], supply, actors)
        make_all(system, choices)
        self.assertEqual(len(system.log()), len(choices))
        with self.assertRaises(BadSystem):
            System(meaning, [one.old()], [one], supply, actors)


if __name__ == "__main__":
    unittest.main()
