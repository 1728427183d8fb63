"""movedactors.refusals: histories that can be lost, and refusals that stand."""

import random
import unittest

from movedactors.classes import Classes
from movedactors.defining import fitted
from movedactors.errors import BadPaper, NoControl
from movedactors.histories import raised_life, together
from movedactors.joint import Joint
from movedactors.meanings import Meaning
from movedactors.reader import read_change, read_edition
from movedactors.refusals import lost, stands
from movedactors.walks import lived, walked
from plain_joint import open_histories, some_changes, sub
from randoms import remembering
from samples import anythings, nested, paths_of, part_of, replaced
from test_histories import OPEN, no_histories
from test_joint import idle, joined
from world import BOOK

# The old code forgets which of two things it was told; children and the actor itself come in by own and kin.
OLD = read_edition(BOOK, """
    edition {
        kind put main () (a, b);
        kind own main () ();
        kind kin main () (a);
        kind turn main (c color) ();
        role r {
            mode m () (x) [main];
            mode n () (x, y) [];
            start () (i, j) { go m () (i); }
            on m put { go m () (pair(a, b)); }
            on m own { make k s () (); make l s () (); go m () (pair(k, l)); }
            on m kin { make k s () (); go m () (k); }
            on m turn if c red { go m () (up(self)); } else { go n () (self, x); }
        }
        role s { mode m () () []; start () () { go m () (); } }
    }
""")
NEW_TEXT = """
    edition {
        kind put main () (a, b);
        kind own main () ();
        kind kin main () (a);
        kind turn main (c color) ();
        role r {
            mode m () (u, v) [main];
            mode n () (v) [];
            start () (i, j) { go m () (i, j); }
            on m put { go m () (a, b); }
            on m own { make k s () (); make l s () (); go m () (k, l); }
            on m kin { make k s () (); go m () (k, up(k)); }
            on m turn if c red { go m () (self, nil()); } else { go n () (v); }
        }
        role s { mode m () () []; start () () { go m () (); } }
    }
"""
CHANGE_TEXT = """
    change { kind put to put () (a, b); kind own to own () (); kind kin to kin () (a); kind turn to turn ($c) ();
             role r to r () (i, j); role s to s () (); }
"""
CONTROL = ("r", "m", ())
BEGUN, PUT, OWN, KIN, RED, GREEN = [("r", (), steps) for steps in (
    (), (("put", ()),), (("own", ()),), (("kin", ()),), (("turn", ("red",)),), (("turn", ("green",)),))]


def losing(*replaced_texts):
    text = NEW_TEXT
    for one, other in replaced_texts:
        assert text.count(one) == 1, one
        text = text.replace(one, other)
    return Joint(read_change(OLD, read_edition(BOOK, text), CHANGE_TEXT))


def two_ways():
    """Old controls that lead to two new ones."""
    return losing(("on m kin { make k s () (); go m () (k, up(k)); }", "on m kin { make k s () (); go n () (k); }"))


def plain_lost(joint, one, other):
    """Whether two open histories can be lost, as S8.5 tells it."""
    (pair, terms), (pair2, terms2) = together(joint, one), together(joint, other)
    if pair[0] != pair2[0]:
        return False
    many = len(joint.change().old().mode(*pair[0][:2])[2])

    def apart(told, k):
        return [sub(term, lambda v: ("var", v if v == ("self",) else v + (k,))) for term in told]

    terms, terms2 = apart(terms, 0), apart(terms2, 1)
    classes = Classes(BOOK.primitives(), list(zip(terms[:many], terms2[:many])))
    for k, history in enumerate((one, other)):
        made = [make[0] for deeds in walked(joint.change().old(), history)[1] for make in deeds[0]]
        kids = apart(made, k) + [("var", ("self",))]
        if any(classes.is_same(kid, kid2) for n, kid in enumerate(kids) for kid2 in kids[:n]):
            return False
    if pair[1] != pair2[1]:
        return True
    return any(not classes.is_same(a, b) for a, b in zip(terms[many:], terms2[many:]))


class Base(unittest.TestCase):
    def loses(self, joint, one, other):
        """The refusal of two histories that can be lost; both lives are lived by both codes."""
        refusal = lost(joint, one, other)
        self.assertEqual((refusal[0], len(refusal)), ("lost", 5))
        _, meaning, own, *pairs = refusal
        self.assertIsInstance(meaning, Meaning)
        change = joint.change()
        olds, news = [], []
        for history, (life, supply) in zip((one, other), pairs):
            self.assertEqual((life[0], life[1], tuple(step[:2] for step in life[3])), history)
            self.assertIsInstance(supply, tuple)
            self.assertEqual(len(set(supply + (own,))), len(supply) + 1)
            self.assertGreaterEqual(min(supply + (own,)), 1)
            states, deeds = lived(meaning, change.old(), life, own, supply)
            self.assertEqual(len(supply), sum(len(told[0]) for told in deeds))
            olds.append(states[-1])
            news.append(lived(meaning, change.new(), raised_life(meaning, change, life), own, supply)[0][-1])
        self.assertEqual(olds[0], olds[1])
        self.assertNotEqual(news[0], news[1])
        self.assertIs(stands(joint, together(joint, one)[0][0], refusal), True)
        return refusal


class Lost(Base):
    def test_two_histories(self):
        one = losing()
        for first, second in ((BEGUN, PUT), (PUT, BEGUN), (OWN, PUT), (BEGUN, RED), (RED, PUT), (KIN, OWN)):
            self.loses(one, first, second)
            self.assertIs(plain_lost(one, first, second), True)

    def test_one_history_twice(self):
        """What the new code keeps has no fitted term, so the old code has forgotten it."""
        one = losing()
        self.loses(one, BEGUN, BEGUN)
        self.loses(one, PUT, PUT)
        self.assertIsNone(lost(one, RED, RED))
        self.assertIsNone(lost(one, KIN, KIN))
        self.assertIn(None, fitted(one, [BEGUN]))
        self.assertNotIn(None, fitted(one, [KIN]))

    def test_other_controls_and_roles(self):
        one = losing()
        self.assertIsNone(lost(one, BEGUN, GREEN))
        self.assertIsNone(lost(one, BEGUN, ("s", (), ())))
        self.assertIsNone(lost(joined(), OPEN[0], OPEN[1]))
        self.assertIsNone(lost(joined(), OPEN[0], OPEN[5]))

    def test_two_new_controls(self):
        """Also where all registers hold the same."""
        one = two_ways()
        self.loses(one, BEGUN, KIN)
        self.loses(one, KIN, BEGUN)
        same = losing(("mode n () (v) [];", "mode n () (u, v) [];"), ("go m () (self, nil());", "go n () (self, nil());"),
                      ("go n () (v);", "go n () (u, v);"))
        self.loses(same, RED, BEGUN)
        self.assertEqual(together(same, RED)[1][1:], (("var", ("self",)), ("of", "nil", ())))

    def test_children_that_would_have_to_be_one(self):
        """Two children of one history, or a child and the actor itself; children of two histories may be one."""
        swapped = losing(("go m () (k, l);", "go m () (l, k);"))
        self.assertIsNotNone(lost(swapped, OWN, OWN))
        text = """
            edition {
                kind own main () (); kind kin main () (a);
                role r { mode m () (x, y) [main]; start () () { go m () (nil(), nil()); }
                         on m own { make k s () (); make l s () (); go m () (k, END); }
                         on m kin { go m () (a, a); } }
                role s { mode m () () []; start () () { go m () (); } }
            }
        """
        changed = "change { kind own to own () (); kind kin to kin () (a); role r to r () (); role s to s () (); }"
        for end, told in (("l", False), ("self", False), ("nil()", True), ("up(l)", True), ("k", True)):
            old = read_edition(BOOK, text.replace("END", end))
            new = read_edition(BOOK, text.replace("END", "l").replace("go m () (a, a)", "go m () (a, nil())"))
            one = Joint(read_change(old, new, changed))
            histories = [("r", (), steps) for steps in ((("own", ()),), (("kin", ()),))]
            self.assertIs(plain_lost(one, *histories), told, end)
            if told:
                self.loses(one, *histories)
            else:
                self.assertIsNone(lost(one, *histories))
                self.assertIsNone(lost(one, *histories[::-1]))

    def test_bad_papers(self):
        one = joined()
        for history in no_histories():
            for first, second in ((history, OPEN[0]), (OPEN[0], history), (history, OPEN[5]), (history, history)):
                with self.assertRaises(BadPaper):
                    lost(one, first, second)

    def test_equal_values(self):
        self.assertEqual(lost(losing(), BEGUN, OWN), lost(losing(), BEGUN, OWN))
        one = losing()
        lost(one, KIN, KIN)
        self.assertEqual(lost(one, BEGUN, OWN), lost(losing(), BEGUN, OWN))


class Stands(Base):
    def refused(self, joint, control, refusal):
        self.assertIs(stands(joint, control, refusal), False, refusal)

    def test_controls(self):
        one = two_ways()
        self.assertIs(stands(one, CONTROL, ("controls", BEGUN, KIN)), True)
        self.assertIs(stands(one, CONTROL, ("controls", KIN, PUT)), True)
        for refusal in (("controls", BEGUN, BEGUN), ("controls", BEGUN, PUT), ("controls", KIN, GREEN), ("controls", BEGUN),
                        ("controls", BEGUN, KIN, KIN), ["controls", BEGUN, KIN], ("controls", list(BEGUN), KIN),
                        ("controls", BEGUN, ("r", (), [("kin", ())])), ("controls", BEGUN, ("r", [], (("kin", ()),))),
                        ("controls", BEGUN, ("r", (), (["kin", ()],))), ("control", BEGUN, KIN), ("controls", (BEGUN, KIN)),
                        ("controls", BEGUN, ("r", (), (("kin", ()), ("kin", ()))))):
            self.refused(one, CONTROL, refusal)
        self.refused(losing(), CONTROL, ("controls", BEGUN, KIN))
        for value in anythings():
            for refusal in (("controls", BEGUN, value), ("controls", value, KIN), (value, BEGUN, KIN), ("controls", value, value)):
                self.refused(one, CONTROL, refusal)

    def test_terms(self):
        one = losing()
        for name, histories in (("v", (BEGUN,)), ("u", (BEGUN, PUT)), ("v", (RED, PUT)), ("u", (PUT, OWN, BEGUN, RED)),
                                ("u", (PUT,)), ("v", (BEGUN, BEGUN))):
            self.assertIs(stands(one, CONTROL, ("terms", name, histories)), True)
        for name, histories in (("u", (BEGUN,)), ("v", (RED,)), ("u", (KIN, BEGUN)), ("x", (BEGUN,)), ("v", ()),
                                ("v", [BEGUN]), ("v", BEGUN), ("v", (BEGUN, GREEN)), ("v", (GREEN,)), ("v", (("s", (), ()),)),
                                ("v", (BEGUN, ("s", (), ()))), ("v", (list(BEGUN),)), (("new", "v"), (BEGUN,)), (True, (BEGUN,))):
            self.refused(one, CONTROL, ("terms", name, histories))
        self.refused(one, CONTROL, ("terms", "v", (BEGUN,), ()))
        self.refused(one, CONTROL, ["terms", "v", (BEGUN,)])
        self.refused(two_ways(), CONTROL, ("terms", "u", (BEGUN, KIN)))
        self.refused(two_ways(), CONTROL, ("terms", "v", (KIN, KIN)))
        self.assertIs(stands(two_ways(), CONTROL, ("terms", "v", (BEGUN,))), True)
        for value in anythings():
            for refusal in (("terms", value, (BEGUN,)), ("terms", "v", value), ("terms", "v", (BEGUN, value)),
                            ("terms", "v", (value,)), (value, "v", (BEGUN,))):
                self.refused(one, CONTROL, refusal)

    def test_one_thing_otherwise_in_lost(self):
        """Each part exchanged for each other one, left out and put in: what stands then has lost two lives all the same."""
        one = losing()
        for histories in ((BEGUN, OWN), (PUT, PUT), (KIN, OWN)):
            refusal = self.loses(one, *histories)
            told = 0
            for path in paths_of(refusal):
                part = part_of(refusal, path)
                others = [0, -1, 1, 101, True, None, (), "r", [], "put", 10 ** 29]
                others += [list(part), part[:-1], part + (1,), part + part[-1:]] if isinstance(part, tuple) else []
                for other in others:
                    spoilt = replaced(refusal, path, other)
                    told += self.check(one, spoilt)
            self.assertGreater(told, 0)

    def check(self, joint, refusal):
        """Compares with the words of S8.4; returns whether the refusal stands."""
        answer = stands(joint, CONTROL, refusal)
        self.assertIs(answer, self.plain(joint, refusal), refusal)
        return answer

    def plain(self, joint, refusal):
        if not isinstance(refusal, tuple) or len(refusal) != 5 or refusal[0] != "lost":
            return False
        _, meaning, own, *pairs = refusal
        if not isinstance(meaning, Meaning) or type(own) is not int or own < 1:
            return False
        olds, news = [], []
        for pair in pairs:
            if not isinstance(pair, tuple) or len(pair) != 2 or not isinstance(pair[1], tuple):
                return False
            life, supply = pair
            try:
                history = (life[0], life[1], tuple(step[:2] for step in life[3]))
                if together(joint, history)[0][0] != CONTROL or any(type(a) is not int or a < 1 for a in supply):
                    return False
                states, deeds = lived(meaning, joint.change().old(), life, own, supply + (1,) * 9)
                if len(supply) != sum(len(d[0]) for d in deeds) or len(set(supply + (own,))) != len(supply) + 1:
                    return False
                changed = raised_life(meaning, joint.change(), life)
                news.append(lived(meaning, joint.change().new(), changed, own, supply)[0][-1])
                olds.append(states[-1])
            except (BadPaper, TypeError, IndexError):
                return False
        return olds[0] == olds[1] and news[0] != news[1]

    def test_lost_of_another_control(self):
        one = losing()
        refusal = lost(one, BEGUN, PUT)
        self.refused(one, ("r", "n", ()), refusal)
        self.refused(one, ("s", "m", ()), refusal)
        two = losing(("mode n () (v) [];", "mode n () (u, v) [];"), ("go n () (v);", "go n () (u, v);"))
        self.refused(two, CONTROL, self.loses(two, GREEN, GREEN))

    def test_one_life_twice(self):
        """The states of the new code are the same then."""
        one = losing()
        _, meaning, own, first, second = self.loses(one, BEGUN, BEGUN)
        for pair in (first, second):
            self.refused(one, CONTROL, ("lost", meaning, own, pair, pair))
        self.assertIs(stands(one, CONTROL, ("lost", meaning, own, second, first)), True)

    def test_meanings(self):
        """By another meaning the two lives may end otherwise; tables for other primitives do not matter."""
        one = losing()
        _, meaning, own, first, second = self.loses(one, PUT, RED)
        more = Meaning({**meaning.tables(), "odd": [((1, 2), 3)]})
        self.assertIs(stands(one, CONTROL, ("lost", more, own, first, second)), True)
        self.refused(one, CONTROL, ("lost", Meaning({"up": [((k,), k + 1) for k in range(300)]}), own, first, second))

    def test_anything(self):
        one = losing()
        refusal = lost(one, BEGUN, PUT)
        for value in anythings() + [True, 0, "lost", (), None, ("lost",), refusal[1:], list(refusal), refusal + (1,)]:
            self.refused(one, CONTROL, value)
        for value in anythings():
            for path in ((1,), (2,), (3,), (3, 0), (3, 1), (4,), (4, 0, 0), (4, 0, 1), (4, 0, 2), (4, 0, 3), (4, 0, 3, 0),
                         (4, 0, 3, 0, 2), (3, 0, 2, 0)):
                if path != (1,) or not isinstance(value, Meaning):
                    self.refused(one, CONTROL, replaced(refusal, path, value))

    def test_no_control(self):
        """First of all, whatever the refusal is."""
        one = losing()
        for control in anythings() + [("r", "m", []), ("r", "x", ()), CONTROL[:2], True, None, (CONTROL, CONTROL), nested(30)]:
            for refusal in (7, lost(one, BEGUN, PUT)):
                with self.assertRaises(NoControl) as caught:
                    stands(one, control, refusal)
                self.assertIs(caught.exception.control, control)
        with self.assertRaises(NoControl):
            stands(joined(("link e; link m; watch y;", ""), ("go rest (green) (x, y);", "stop;")), idle("green")[0], 7)


class Chosen(Base):
    def test_random_changes(self):
        chosen = random.Random(120)
        seen = {"lost": 0, "twice": 0, "kept": 0}
        for one in some_changes(120, 60, (1, 2, 3)) + remembering(121, 40):
            joint = Joint(one)
            for role, _, _, _ in one.old().roles():
                histories = open_histories(one, role, 2)
                for _ in range(12):
                    first, second = chosen.choice(histories), chosen.choice(histories)
                    if chosen.randrange(4) == 0:
                        second = first
                    if plain_lost(joint, first, second):
                        self.loses(joint, first, second)
                        seen["twice" if first == second else "lost"] += 1
                    else:
                        self.assertIsNone(lost(joint, first, second))
                        seen["kept"] += 1
                    pair = together(joint, first)[0]
                    if None in fitted(joint, [first]):
                        self.loses(joint, first, first)
                    for other in (second, chosen.choice(histories)):
                        self.assertIs(stands(joint, pair[0], ("controls", first, other)),
                                      together(joint, other)[0][0] == pair[0] and together(joint, other)[0][1] != pair[1])
        self.assertGreater(min(seen.values()), 10, seen)


if __name__ == "__main__":
    unittest.main()
