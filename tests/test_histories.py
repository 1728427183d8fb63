"""movedactors.histories: histories walked together, where they are unlike, rows that fail, lives that tell apart."""

import random
import unittest

from movedactors.changes import Change
from movedactors.editions import Edition
from movedactors.errors import BadPaper
from movedactors.histories import fails, parted, raised_life, together, unlike_place
from movedactors.joint import Joint
from movedactors.meanings import Meaning, value_of
from movedactors.papers import shows_alike
from movedactors.raising import changed_message, changed_start, raised_deeds
from movedactors.reader import read_change, read_edition
from movedactors.terms import depth, variables
from movedactors.walks import is_possible, lived, valued
from plain_joint import Together, chosen_history, deed_list, some_changes, sub
from samples import SELF, anythings, change, given, nested, of, reg, var
from test_joint import BUSY, RED, idle, joined
from test_walks import at
from world import BOOK, MEANING

GONE = ("gone", ("bad",))
TELL = ("tell", ("big",))
OPEN = [
    ("cell", ("red",), ()), ("cell", ("green",), ()), ("cell", ("red",), (RED,)), ("cell", ("red",), (RED, RED, GONE)),
    ("cell", ("green",), (("ask", ()), RED, TELL, ("ask", ()))), ("kid", (), ()),
]
# They do not go on, are no arrivals, or are wrong otherwise.
NOT_OPEN = [
    ("cell", ("red",), (("put", ("green",)),)), ("cell", ("red",), (RED, ("tell", ("small",)))),
    ("cell", ("red",), (("ask", ()),)), ("cell", ("green",), (RED,)), ("kid", (), (GONE,)),
    ("cell", ("red",), (("put", ("green",)), RED)), ("cell", ("red",), [RED]), ["cell", ("red",), (RED,)],
    ("cell", ["red"], (RED,)), ("cell", ("red",), (list(RED),)), ("cell", ("red",), (("put", ["red"]),)),
    ("cell", ("red",)), ("cell", ("red",), (), ()), ("unit", ("red",), ()), ("cell", (), ()), ("cell", ("big",), ()),
    ("cell", ("red",), (("set", ("red",)),)), ("cell", ("red",), (RED + ((),),)), ("cell", ("red",), ("put",)),
    ("cell", ("red",), ((),)), ("none", (), ()), True, 0, "cell", (),
]
LIFE = ("cell", ("red",), (1, 2), (("put", ("red",), (3, 4)), ("gone", ("bad",), (5,)), ("tell", ("small",), (6,))))


def no_histories():
    return NOT_OPEN + anythings() + [("cell", ("red",), value) for value in anythings()] + [
        ("cell", value, ()) for value in anythings()] + [(value, ("red",), ()) for value in anythings()] + [
        ("cell", ("red",), (RED, value)) for value in anythings()] + [
        ("cell", ("red",), ((value, ()),)) for value in anythings()] + [
        ("cell", ("red",), (("put", value),)) for value in anythings()]


class Walks(unittest.TestCase):
    def test_open_histories(self):
        one = joined()
        for history in OPEN:
            pair, terms = together(one, history)
            self.assertEqual((pair, terms), Together(one.change(), history).last())
            self.assertIsInstance(terms, tuple)
        self.assertEqual(together(one, OPEN[3]), (idle("red"), (
            at("field", 2, "who"), given("i"), given("i"), at("field", 2, "who"))))
        self.assertEqual(together(one, ("cell", ("green",), (("ask", ()), TELL))), (BUSY, (at("field", 1, "v"),) * 2))

    def test_fields_and_children(self):
        """A field of a changed message is the change's term of old fields; a child has its name in the old edge."""
        one = joined(("go rest (green) (x, y)", "go rest (green) (m, b)"))
        self.assertEqual(together(one, ("cell", ("red",), (RED,)))[1], (
            of("up", SELF), given("i"), at("child", 0, "k"), at("field", 0, "b")))
        told = together(one, ("cell", ("red",), (RED, RED)))[1]
        self.assertEqual(told, (given("i"), of("up", SELF), at("child", 1, "k"), at("field", 1, "b")))

    def test_no_histories(self):
        one = joined()
        for history in no_histories():
            with self.assertRaises(BadPaper):
                together(one, history)

    def test_chosen(self):
        chosen = random.Random(80)
        seen = {}
        for one in some_changes(80, 120):
            joint = Joint(one)
            for role, _, _, _ in one.old().roles():
                for _ in range(6):
                    history = chosen_history(chosen, one, role, 5)
                    walk = Together(one, history)
                    if walk.is_open():
                        self.assertEqual(together(joint, history), walk.last())
                    else:
                        with self.assertRaises(BadPaper):
                            together(joint, history)
                    place = unlike_place(joint, history)
                    self.assertEqual(place, walk.unlike_place())
                    seen[place] = True
        self.assertLessEqual({None, "heeds", "makes", "sends", "end", "terms"}, set(seen))


class Unlike(unittest.TestCase):
    def place(self, told, history, *replaced):
        one = joined(*replaced)
        self.assertEqual(unlike_place(one, history), told)
        self.assertEqual(Together(one.change(), history).unlike_place(), told)

    def test_none(self):
        for history in OPEN:
            self.place(None, history)
        self.place(None, ("cell", ("red",), (("put", ("green",)),)))
        self.place(None, ("cell", ("red",), (RED, ("tell", ("small",)))))

    def test_heeds(self):
        """Also of a history without steps, and ahead of what the last arrival is like."""
        deaf = ("(y, x) [main, gone] heeds", "(y, x) [main, gone]")
        self.place("heeds", ("cell", ("red",), ()), deaf)
        self.place(None, ("cell", ("green",), ()), deaf)
        self.place("heeds", ("cell", ("red",), (RED,)), deaf, ("link m;", ""))
        self.place("links", ("cell", ("red",), (RED,)), ("link m;", ""))
        self.place("heeds", ("cell", ("green",), (("ask", ()),)), deaf)
        self.place("heeds", ("cell", ("green",), ()), ("mode work () (z) [side]", "mode work () (z) [side] heeds"))
        # What does not go on is not open, so its ends do not count.
        self.place(None, ("cell", ("red",), (("put", ("green",)),)), deaf)

    def test_each_word(self):
        red, green, small = [("cell", ("red",), (step,)) for step in (RED, ("put", ("green",)), ("tell", ("small",)))]
        gone = ("cell", ("red",), (GONE,))
        self.place("port", gone, ("[main, gone]", "[main]"), ("on rest gone { go rest (red) (x, who); }", ""))
        self.place("makes", red, ("make m unit ($q) (x, e); make n kid () ();",
            "make n kid () (); make m unit ($q) (x, e);"))
        self.place("links", red, ("link m;", ""))
        self.place("watches", red, ("watch y;", ""))
        self.place("sends", green, ("send e query () (x);", ""))
        self.place("end", green, ("stop;", "fail bad;"))
        self.place("end", small, ("fail bad;", "fail worse;"))
        self.place("end", ("cell", ("red",), (TELL,)), ("go work () (v);", "stop;"))
        for spoilt in (("link e;", "link b;"), ("watch y;", "watch x;"), ("send b set ($d) (m, y);",
                "send e set ($d) (m, y);"), ("send b set ($d) (m, y);", "send b set ($d) (y, m);"),
                ("make m unit ($q) (x, e);", "make m unit ($q) (e, x);"), ("link m;", "link up(m);")):
            self.place("terms", red, spoilt)
        self.place("terms", green, ("send e query () (x);", "send e query () (y);"))

    def test_the_first_place_alone(self):
        self.place("makes", ("cell", ("red",), (RED,)), ("make n kid () ();", "make n kid () (); make o kid () ();"),
                   ("link m;", ""), ("watch y;", ""))
        self.place("watches", ("cell", ("red",), (RED,)), ("watch y;", ""), ("link e;", "link b;"))

    def test_the_last_arrival_alone(self):
        """What earlier arrivals are like does not matter; nor does what does not come behind an open history."""
        self.place(None, ("cell", ("red",), (RED, GONE)), ("link m;", ""))
        self.place("links", ("cell", ("red",), (GONE, RED)), ("link m;", ""))
        self.place(None, ("cell", ("red",), (("put", ("green",)), RED)), ("link m;", ""))
        self.place(None, ("cell", ("red",), (RED, ("ask", ()))), ("link m;", ""))

    def test_terms_of_the_walk(self):
        """Terms of a demand that differ as they stand may be the same behind the history, and the other way round."""
        spoilt = ("go rest (red) (x, who)", "go rest (red) (who, x)")
        self.place(None, ("cell", ("red",), (GONE,)), spoilt)
        self.place("terms", ("cell", ("red",), (GONE, RED)), spoilt)
        # Both registers of the new code hold the message's field.
        same = ("send u query () (z);", "send z query () (u);")
        self.place("terms", ("cell", ("green",), (("ask", ()),)), same)
        self.place(None, ("cell", ("red",), (RED, TELL)), same)

    def test_no_histories(self):
        one = joined(("link m;", ""), ("(y, x) [main, gone] heeds", "(y, x) [main, gone]"), ("stop;", "fail bad;"))
        for history in no_histories():
            if not is_possible(one.change().old(), history):
                self.assertIsNone(unlike_place(one, history))


class Great(unittest.TestCase):
    def test_terms_that_are_nested_deep(self):
        """60 steps, behind which a register holds a term that is 240 deep."""
        text = """
            edition {
                kind put main () (a);
                role r {
                    mode m () (x, y) [main];
                    start () (i) { go m () (i, i); }
                    on m put { send y put () (x); go m () (up(up(up(up(x)))), a); }
                }
            }
        """
        swapped = text.replace("(x, y)", "(y, x)").replace("(up(up(up(up(x)))), a)", "(a, up(up(up(up(x)))))")
        change_text = "change { kind put to put () (a); role r to r () (i); row r m () to m () (y, x); }"
        one = read_change(read_edition(BOOK, text), read_edition(BOOK, swapped), change_text)
        joint, row = Joint(one), one.rows()[0]
        history = ("r", (), (("put", ()),) * 60)
        pair, terms = together(joint, history)
        self.assertEqual((pair, depth(terms[0]), depth(terms[3])), ((row[0], row[0]), 240, 240))
        self.assertIsNone(unlike_place(joint, history))
        self.assertIs(fails(joint, row, history), False)
        self.assertIs(fails(joint, row[:3] + (row[3][::-1],), history), True)
        self.assertIs(fails(joint, row[:3] + ((row[3][0], of("up", row[3][1])),), history), True)
        meaning, life, own, supply = parted(joint, history, terms)
        old = lived(meaning, one.old(), life, own, supply)[0][-1]
        new = lived(meaning, one.new(), raised_life(meaning, one, life), own, supply)[0][-1]
        self.assertEqual(old[1], new[1][::-1])
        equations = ((("new", "y"), var(("old", "y"))), (("new", "x"), var(("old", "x"))))
        self.assertIs(shows_alike(joint, "r", ((pair, equations),)), True)


class Rows(unittest.TestCase):
    def test_right_rows(self):
        one = joined()
        for row in ((idle("red")[0], "rest", ("red",), (reg("y"), reg("x"))), (BUSY[0], "work", (), (reg("z"),))):
            for history in OPEN + NOT_OPEN:
                self.assertIs(fails(one, row, history), False)

    def test_wrong_rows(self):
        """It fails behind the open histories at which the old code stands at its control, and no others."""
        one = joined()
        to_idle = [history for history in OPEN if together(one, history)[0] == idle("red")]
        self.assertEqual(len(to_idle), 3)
        for row in ((idle("red")[0], "rest", ("red",), (reg("x"), reg("y"))),
                    (idle("red")[0], "rest", ("green",), (reg("y"), reg("x"))),
                    (idle("red")[0], "work", (), (reg("x"),)),
                    (idle("red")[0], "rest", ("red",), (reg("y"), of("up", reg("x"))))):
            for history in OPEN + no_histories():
                self.assertIs(fails(one, row, history), history in to_idle)
        row = (idle("red")[0], "rest", ("red",), (of("up", SELF), reg("x")))
        self.assertEqual([fails(one, row, history) for history in to_idle], [False, True, True])

    def test_where_small_things_would_not_show_it(self):
        """Terms are compared, not things: by many meanings a wrong row does the same."""
        one = joined()
        row = (BUSY[0], "work", (), (of("up", of("up", reg("z"))),))
        meaning = Meaning({"up": [((k,), (k + 2) % 4) for k in range(4)]})
        self.assertIs(fails(one, row, ("cell", ("green",), ())), True)
        for thing in range(4):
            self.assertEqual(value_of(meaning, row[3][0], {("register", "z"): thing}), thing)

    def test_other_roles(self):
        one = joined()
        self.assertIs(fails(one, (("kid", "only", ()), "only", (), ()), ("kid", (), ())), False)
        self.assertIs(fails(one, (("kid", "only", ()), "only", (), ()), ("cell", ("red",), ())), False)

    def test_chosen(self):
        chosen = random.Random(81)
        answers = {True: 0, False: 0}
        for one in some_changes(81, 80):
            joint = Joint(one)
            for row in one.rows():
                if chosen.randrange(2):
                    row = row[:3] + (row[3][1:] + row[3][:1],)
                for _ in range(3):
                    history = chosen_history(chosen, one, row[0][0], 4)
                    walk, expected = Together(one, history), False
                    if walk.is_open() and walk.last()[0][0] == row[0]:
                        (old, new), terms = walk.last()
                        names = one.old().mode(*old[:2])[2]
                        held = {("register", x): term for x, term in zip(names, terms)}
                        told = tuple(sub(term, lambda v: held.get(v, ("var", v))) for term in row[3])
                        expected = (new, terms[len(names):]) != ((one.of_role(old[0])[1],) + row[1:3], told)
                    self.assertIs(fails(joint, row, history), expected)
                    answers[expected] += 1
        self.assertGreater(min(answers.values()), 30)


class Lives(unittest.TestCase):
    def test_raised(self):
        one = joined().change()
        self.assertEqual(raised_life(MEANING, one, LIFE), ("unit", ("red",), (1, 2), (
            ("set", ("red",), (4, 3)), ("gone", ("bad",), (5,)), ("say", ("big",), (6,)))))
        self.assertEqual(raised_life(MEANING, one, ("kid", (), (), ())), ("kid", (), (), ()))
        life = ("cell", ("green",), (3,), (("put", ("red", "bad"), (4, 5)), ("ask", (), (6,))))
        self.assertEqual(raised_life(MEANING, change(), life), ("unit", ("big", "green"), (3, 103), (
            ("set", ("red", "small"), (MEANING.apply("pair", (5, 4)),)), ("query", (), (6, 106)))))

    def test_it_need_not_be_possible(self):
        one = joined().change()
        life = ("kid", (), (), (("put", ("green",), (3, 4)), ("ask", (), (6,)), ("gone", ("ended",), (0,))))
        self.assertEqual(raised_life(MEANING, one, life), ("kid", (), (), (
            ("set", ("green",), (4, 3)), ("query", (), (6,)), ("gone", ("ended",), (0,)))))

    def test_no_lives(self):
        one = joined().change()
        wrong = [
            list(LIFE), LIFE[:3], LIFE + ((),), ("unit",) + LIFE[1:], ("none",) + LIFE[1:], LIFE[:1] + ((),) + LIFE[2:],
            LIFE[:1] + (["red"],) + LIFE[2:], LIFE[:2] + ((1,),) + LIFE[3:], LIFE[:2] + ((1, 2, 3),) + LIFE[3:],
            LIFE[:2] + ((1, True),) + LIFE[3:], LIFE[:2] + ((False, 2),) + LIFE[3:], LIFE[:2] + ([1, 2],) + LIFE[3:],
            LIFE[:2] + ((1, -2),) + LIFE[3:], LIFE[:3] + (list(LIFE[3]),), True, 0, (),
        ]
        for step in (list(LIFE[3][0]), ("put", ("red",)), ("put", ["red"], (3, 4)), ("put", ("red",), [3, 4]),
                     ("put", ("red",), (3,)), ("put", ("red",), (3, True)), ("put", ("big",), (3, 4)),
                     ("set", ("red",), (3, 4)), ("put", ("red",), (3, -1)), ("put", ("red",), (3, 4), ()), "put", (),
                     ("gone", ("red",), (1,)), ("gone", ("bad",), ())):
            wrong.append(LIFE[:3] + ((step,),))
        for value in anythings() + [nested(30)]:
            wrong.append(value)
            wrong.extend([LIFE[:k] + (value,) + LIFE[k + 1:] for k in range(4)])
            wrong.extend([LIFE[:3] + ((LIFE[3][0][:k] + (value,) + LIFE[3][0][k + 1:],),) for k in range(3)])
            wrong.append(LIFE[:3] + ((value,),))
        for life in wrong:
            with self.assertRaises(BadPaper):
                raised_life(MEANING, one, life)

    def test_chosen(self):
        """The new code of a raised life has the values of the terms that its registers hold."""
        chosen = random.Random(82)
        for one in some_changes(82, 40):
            joint = Joint(one)
            for role, _, _, _ in one.old().roles():
                history = chosen_history(chosen, one, role, 4)
                if not Together(one, history).is_open():
                    continue
                meaning, life, own, supply = parted(joint, history, [])
                told = raised_life(meaning, one, life)
                self.assertEqual(told[:3], changed_start(meaning, one, *life[:3]))
                self.assertEqual(told[3], tuple(changed_message(meaning, one, *step) for step in life[3]))
                states, _ = lived(meaning, one.new(), told, own, supply)
                pair, terms = together(joint, history)
                values = {variable: thing for variable, thing in tables(one, life, own, supply)}
                held = tuple(value_of(meaning, term, values) for term in terms)
                old = lived(meaning, one.old(), life, own, supply)[0][-1]
                self.assertEqual((old[0], states[-1][0]), pair)
                self.assertEqual(old[1] + states[-1][1], held)


def tables(one, life, own, supply):
    """The pairs of the variables of a walk and their things in a life."""
    role, words, things, steps = life
    old = one.old()
    found = list(zip([("given", x) for x in old.start(role)[1]], things)) + [(("self",), own)]
    for k, step in enumerate(steps):
        found += zip([("field", k, x) for x in old.kind(step[0])[3]], step[2])
    walk = Together(one, (role, words, tuple(step[:2] for step in steps)))
    rest = list(supply)
    for k, deeds in enumerate(walk.old_deeds):
        for make in deeds[0]:
            found.append((make[0][1], rest.pop(0)))
        if k < walk.many:
            for j in range(len(deeds[0]), len(walk.new_deeds[k][0])):
                found.append((("more", k, j), rest.pop(0)))
    assert not rest
    return found


class Parted(unittest.TestCase):
    def check(self, joint, history, more):
        one = joint.change()
        told = parted(joint, history, more)
        self.assertEqual((type(told), len(told)), (tuple, 4))
        meaning, life, own, supply = told
        self.assertIsInstance(supply, list)
        self.assertEqual((life[0], life[1], tuple(step[:2] for step in life[3])), history)
        things = list(life[2]) + [thing for step in life[3] for thing in step[2]] + [own] + supply
        self.assertEqual(len(things), len(set(things)))
        self.assertGreater(min(things), max([100] + [slot[0] for slot in one.old().slots()]))
        walk = Together(one, history)
        values = dict(tables(one, life, own, supply))
        states, deeds = lived(meaning, one.old(), life, own, supply)
        for values_of, terms_of in zip(deeds, walk.old_deeds):
            self.assertEqual(values_of, valued(meaning, terms_of, values))
        terms = list(more)
        if walk.is_open():
            terms += walk.last()[1]
        if history[2]:
            last = len(history[2]) - 1
            terms += walk.old_stands[last][1] + walk.new_stands[last][1]
            every = [walk.old_deeds[last], raised_deeds(one, walk.old_deeds[last])]
            every += [walk.new_deeds[last]] if last < walk.many else []
            for done in every:
                terms += deed_list(done) + [make[0] for make in done[0]]
                terms += list(done[4][3]) if done[4][0] == "go" else []
        for term in terms:
            values.update({v: 0 for v in variables(term) if v not in values})
        told = {}
        for term in terms:
            told.setdefault(value_of(meaning, term, values), []).append(term)
        for terms in told.values():
            self.assertEqual(terms, [terms[0]] * len(terms))
        return told

    def test_open_ones(self):
        for history in OPEN:
            self.check(joined(), history, [])
        meaning, life, own, supply = parted(joined(), OPEN[3], ())
        self.assertEqual((len(supply), len(life[2]), [len(step[2]) for step in life[3]]), (4, 2, [2, 2, 1]))

    def test_open_without_the_last_step(self):
        for history in (("cell", ("red",), (("put", ("green",)),)), ("cell", ("red",), (RED, ("tell", ("small",))))):
            self.check(joined(), history, [])
            self.check(joined(("stop;", "go rest ($q) (x, y);"), ("fail bad;", "stop;")), history, [of("up", given("i"))])
        gone = ("cell", ("red",), (RED, GONE))
        self.check(joined(("[main, gone]", "[main]"), ("on rest gone { go rest (red) (x, who); }", "")), gone, [])

    def test_children_that_one_code_alone_makes(self):
        history = ("cell", ("red",), (RED, RED))
        more = joined(("make n kid () ();", "make n kid () (); make o unit (red) (n, x);"),
                      ("send b set ($d) (m, y);", "send o set ($d) (m, o);"))
        self.assertEqual(len(parted(more, ("cell", ("red",), (RED,)), [])[3]), 3)
        self.check(more, ("cell", ("red",), (RED,)), [])
        with self.assertRaises(BadPaper):
            parted(more, history, [])
        less = joined(("make n kid () ();", ""), ("send n say", "send m say"))
        self.assertEqual(len(parted(less, ("cell", ("red",), (RED,)), [])[3]), 2)
        self.check(less, ("cell", ("red",), (RED,)), [])

    def test_terms_of_an_end_that_one_code_alone_has(self):
        """The old code goes on, and its terms differ, where the new one stops; and the other way round."""
        text = """
            edition {
                kind put main () (a);
                role r {
                    mode m () (x, y) [main];
                    start () () { go m () (self, self); }
                    on m put { go m () (up(a), pair(a, a)); }
                }
            }
        """
        stops = text.replace("go m () (up(a), pair(a, a));", "stop;")
        for old, new in ((text, stops), (stops, text)):
            one = read_change(read_edition(BOOK, old), read_edition(BOOK, new), """
                change { kind put to put () (a); role r to r () (); }
            """)
            self.check(Joint(one), ("r", (), (("put", ()),)), [])

    def test_slots_with_great_addresses(self):
        one = joined().change()
        editions = []
        for edition in (one.old(), one.new()):
            slots = tuple(("slot", k, "kid", (), ()) for k in (3, 700, 5))
            tree = (("supervisor", "s", "one", 1, slots),)
            editions.append(Edition(edition.book(), edition.kinds()[:-1], edition.roles(), tree))
        great = Joint(Change(editions[0], editions[1], one.kinds(), one.roles(), one.rows()))
        for history in OPEN:
            self.check(great, history, [])
        _, life, own, supply = parted(great, OPEN[2], [])
        self.assertGreater(min((own,) + life[2] + life[3][0][2] + tuple(supply)), 700)

    def test_more_terms(self):
        deep = of("up", of("up", of("up", of("pair", given("j"), of("nil")))))
        more = [deep, of("pair", deep, deep), of("nil"), given("j"), of("up", given("i")), SELF]
        told = self.check(joined(), OPEN[3], more)
        self.assertGreater(len(told), 8)
        self.check(joined(), OPEN[3], tuple(more))

    def test_bad_papers(self):
        for history in no_histories():
            if history in (("cell", ("red",), (("put", ("green",)),)), ("cell", ("red",), (RED, ("tell", ("small",))))):
                continue
            with self.assertRaises(BadPaper):
                parted(joined(), history, [])

    def test_chosen(self):
        chosen = random.Random(83)
        for one in some_changes(83, 100):
            joint = Joint(one)
            for role, _, _, _ in one.old().roles():
                history = chosen_history(chosen, one, role, 4)
                walk = Together(one, history)
                if walk.is_open() or walk.is_led_to_last():
                    self.check(joint, history, [var(("given", "q"))] if chosen.randrange(2) else [])
                    self.assertEqual(parted(joint, history, []), parted(Joint(one), history, ()))


if __name__ == "__main__":
    unittest.main()
