"""movedactors.rolling: sleepers, first supervisors, moved views, and partings of roles and of supervisors."""

import random
import unittest

from movedactors.alike import differences, is_closed
from movedactors.choices import can, make, make_all, open_choices
from movedactors.controls import controls
from movedactors.errors import BadChange, BadSystem, UnknownName
from movedactors.meanings import Meaning
from movedactors.reader import read_change, read_edition
from movedactors.rolling import judge_role, judge_supervisor, moved_view, part_role, part_supervisor, rolling
from movedactors.squares import square
from movedactors.supervisors import names_of
from movedactors.systems import System
from movedactors.views import view
from plain_joint import some_changes
from plain_parting import begun_pair, role_difference, seen, slot_actors, supervisor_difference
from randoms import fuzzy_meaning, random_message, random_run
from samples import anythings, nested, paths_of, part_of, replaced
from test_alike import with_tree
from test_squares import BUSY, GREEN, RED, ROWS, mixed, totalled
from world import BOOK, MEANING, TO_SECOND

TEXT = """
    edition {
        kind put main () (a);
        role r {
            mode m (q color) (x, y) [main, gone];
            start (p color) (i, j) if p red { go m (red) (i, self); } else { go m ($p) (j, j); }
            on m put { make k s () (); send a put () (x); go m ($q) (a, k); }
            on m gone { stop; }
        }
        role s { mode m () () []; start () () { go m () (); } }
        TREE
    }
"""
TREE = """
    supervisor top one 2 {
        slot 1 r (red) (nil(), up(nil()));
        supervisor low all 1 { slot 3 s () (); slot 2 r (green) (up(nil()), nil()); }
        supervisor mid all 0 { slot 6 r (red) (nil(), nil()); }
    }
    supervisor zero behind 0 { supervisor deep behind 0 { slot 5 r (red) (nil(), nil()); } slot 9 s () (); }
"""
KINDS = """
    change { kind put to put () (a); role r to r ($p) (i, j); role s to s () ();
             row r m (red) to m (red) (x, y); row r m (green) to m (green) (x, y); row s m () to m () (); }
"""


def change(*others, tree=TREE, kinds=KINDS, roles=()):
    """The change to the edition in which the tree, or the roles, have other texts."""
    new_tree, new_text = tree, TEXT
    for one, other in others:
        assert new_tree.count(one) == 1, one
        new_tree = new_tree.replace(one, other)
    for one, other in roles:
        assert new_text.count(one) == 1, one
        new_text = new_text.replace(one, other)
    editions = [read_edition(BOOK, text.replace("TREE", told)) for text, told in ((TEXT, tree), (new_text, new_tree))]
    return read_change(*editions, kinds)


ODD = change(("top one 2", "top one 1"), ("low all", "low behind"), ("2 r (green) (up(nil()), nil())", "2 r (green) (nil(), up(nil()))"),
             ("6 r (red) (nil()", "6 r (green) (nil()"), ("5 r (red)", "5 r (green)"),
             roles=(("send a put () (x);", "send x put () (a);"),))


class Base(unittest.TestCase):
    def check(self, one, sleepers, supervisors):
        """Each sleeper and each first supervisor has a parting that is right, and no other one has one."""
        self.assertEqual(rolling(one), (sleepers, supervisors))
        for role in one.old().roles():
            parting = part_role(one, role[0])
            self.assertEqual(parting is not None, role[0] in sleepers)
            if parting is not None:
                self.assertIs(judge_role(one, role[0], parting), True)
                self.assertIs(role_difference(one, role[0], parting), True)
        for name in names_of(one.old().tree()):
            parting = part_supervisor(one, name)
            self.assertEqual(parting is not None, name in supervisors)
            if parting is not None:
                self.assertLessEqual(len(parting[1]), 48)
                self.assertIs(judge_supervisor(one, name, parting), True)
                self.assertIs(supervisor_difference(one, name, supervisors, parting), True)


class Rolling(Base):
    def test_none(self):
        self.check(change(), (), ())
        self.check(totalled(), (), ())

    def test_sleepers(self):
        """For each word of squares, in the order of the roles."""
        gone = (("[main, gone]", "[main]"), ("on rest gone { go rest (red) (x, who); }", ""))
        for told in (gone, (("make n kid () ();", "make n kid () (); make o kid () ();"),), (("link m;", ""),),
                     (("make m unit ($q) (x, e)", "make m unit ($q) (e, e)"),), (("watch y;", "watch x;"),),
                     (("send n say (big)", "send n say (small)"),), (("send b set ($d) (m, y);", "send b set ($d) (y, m);"),),
                     (("fail bad;", "fail worse;"),), (("fail bad;", "stop;"),), (("stop;", "go rest (red) (x, y);"),),
                     (("go rest (red) (x, who);", "go rest (green) (x, who);"),), (("go work () (v);", "go work () (x);"),),
                     (("link m;", "link n;"),), (("link e;", "link up(e);"),), (("on rest gone {", "on rest gone { link self;"),)):
            self.check(totalled(*told), ("cell",), ())
        self.check(totalled(rows=ROWS.replace("idle (red) to rest (red) (y, x)", "idle (red) to rest (red) (x, y)")), ("cell",), ())
        self.check(totalled(rows=ROWS.replace("to work () (z)", "to work () (self)")), ("cell",), ())

    def test_several_sleepers(self):
        text = """
            edition { kind put main () (a);
                      role r { mode m () () [main]; start () () { go m () (); } on m put { stop; } }
                      role s { mode m () () [main]; start () () { go m () (); } on m put { send a put () (a); stop; } }
                      role t { mode m () () [main]; start () () { go m () (); } on m put { fail bad; } } }
        """
        rows = "".join(f"role {name} to {name} () ();" for name in "rst") + "".join(
            f"row {name} m () to m () ();" for name in "tsr")
        old, new = read_edition(BOOK, text), read_edition(BOOK, text.replace("stop; } }\n                      role s",
                                                                         "fail bad; } }\n                      role s")
                                                          .replace("put { fail bad; } } }", "put { fail worse; } } }"))
        self.check(read_change(old, new, f"change {{ kind put to put () (a); {rows} }}"), ("r", "t"), ())

    def test_children_and_the_actor_itself(self):
        """The squares tell children, and the actor, apart, also within primitives and whatever their addresses are."""
        text = """
            edition { kind put main () (a);
                      role r { mode m () (x) [main]; start () (i) { go m () (i); }
                               on m put { make k r (a); make l r (a); link a; watch a; send a put (a); go m (a); } }
                      TREE }
        """.replace("r (a);", "r () (MAKE);").replace("link a;", "link LINK;").replace("watch a;", "watch WATCH;").replace(
            "send a put (a)", "send TO put () (PUT)").replace("go m (a)", "go m () (GO)")
        places = ("MAKE", "LINK", "WATCH", "TO", "PUT", "GO")
        trees = [""] + [f"supervisor top one 1 {{ {' '.join(f'slot {a} r () (nil());' for a in told)} }}" for told in (
            (1,), (1, 3), (5, 2), (1, 2, 3, 4), (101, 102))]
        for tree in trees:
            for place in places:
                for one, other in (("up(k)", "up(l)"), ("up(self)", "up(k)"), ("pair(k, l)", "pair(l, k)"), ("k", "l"),
                                   ("pair(up(self), k)", "pair(up(l), k)")):
                    editions = [self.placed(text.replace("TREE", tree), places, place, term) for term in (one, other)]
                    self.check(read_change(*editions, """
                        change { kind put to put () (a); role r to r () (i); row r m () to m () (x); }"""), ("r",), ())

    def placed(self, text, places, place, term):
        """The edition that has a term at one place, and the field at each other one."""
        for name in places:
            text = text.replace(name, term if name == place else "a", 2 if name == "MAKE" else 1)
        return read_edition(BOOK, text)

    def test_arrows_of_controls_that_are_not_reached(self):
        old = read_edition(BOOK, """
            edition { kind put main () (a); role r { mode m () (x) [main]; mode n () (x) [main];
                      start () (i) { go m () (i); } on m put { go m () (a); } on n put { send x put () (a); stop; } } }
        """)
        self.check(read_change(old, old, """
            change { kind put to put () (a); role r to r () (i); row r m () to m () (x); row r n () to m () (x); }
        """), ("r",), ())

    def test_a_closed_change_may_have_a_sleeper(self):
        text = """
            edition { kind put main () (a); role r { mode m () (x, y) [main]; start () (i) { go m () (i, i); }
                      on m put { send a put () (y); go m () (a, a); } } }
        """
        edition = read_edition(BOOK, text)
        one = read_change(edition, edition, """
            change { kind put to put () (a); role r to r () (i); row r m () to m () (y, x); }
        """)
        self.assertIs(is_closed(one), True)
        self.check(one, ("r",), ())

    def test_limits_and_ways(self):
        self.check(change(("top one 2", "top one 1")), (), ("top",))
        self.check(change(("top one 2", "top one 0")), (), ("top",))
        self.check(change(("low all 1", "low behind 1"), ("zero behind 0", "zero one 1")), (), ("low", "zero", "deep")[:2])
        self.check(change(("top one 2", "top all 2")), (), ("top",))
        self.check(change(("top one 2", "top behind 2"), ("low all 1", "low all 2"), ("mid all 0", "mid all 3")), (), ("top", "low", "mid"))
        self.check(change(("mid all 0", "mid one 0"), ("zero behind 0", "zero all 0")), (), ())

    def test_open_slots(self):
        """The own supervisor counts, whichever one above it has a limit; things that are not kept do not count."""
        self.check(change(("6 r (red)", "6 r (green)")), (), ("mid",))
        self.check(change(("up(nil()), nil()", "nil(), nil()")), (), ())
        self.check(change(("up(nil()), nil()", "nil(), up(nil())")), (), ("low",))
        self.check(change(("1 r (red) (nil(), up(nil()))", "1 r (red) (nil(), nil())")), (), ())
        self.check(change(("1 r (red) (nil(), up(nil()))", "1 r (red) (up(nil()), nil())")), (), ("top",))
        self.assertEqual(differences(change(("up(nil()), nil()", "nil(), nil()"))), [("start", 2)])

    def test_slots_under_limits_of_zero(self):
        self.check(change(("5 r (red)", "5 r (green)")), (), ())
        self.check(change(("5 r (red)", "5 r (green)"), ("zero behind 0", "zero behind 1")), (), ("zero", "deep"))
        self.check(change(("5 r (red)", "5 r (green)"), ("deep behind 0", "deep behind 2")), (), ("deep",))
        self.check(change(("6 r (red)", "6 r (green)"), ("top one 2", "top one 0")), (), ("top",))

    def test_the_address_is_the_actor(self):
        """("self",) of a row, and of a start, stands for the address of the slot."""
        told = KINDS.replace("row r m (red) to m (red) (x, y)", "row r m (red) to m (red) (x, self)")
        self.check(change(kinds=told), ("r",), ())
        told = KINDS.replace("row r m (red) to m (red) (x, y)", "row r m (red) to m (red) (self, y)")
        self.check(change(kinds=told), ("r",), ("top", "mid"))

    def test_all_at_once(self):
        """In the order of the trees, each once."""
        self.check(ODD, ("r",), ("top", "low", "mid"))

    def test_bad_changes(self):
        """Not total first; then the number of the row, as it stands, of the first control that does not heed alike."""
        asks = (lambda one: rolling(one), lambda one: part_role(one, 7), lambda one: judge_role(one, 7, 7),
                lambda one: part_supervisor(one, 7), lambda one: judge_supervisor(one, 7, 7))
        deaf = totalled(("(y, x) [main, gone] heeds", "(y, x) [main, gone]"))
        keen = totalled(("mode work () (z) [side]", "mode work () (z) [side] heeds"),
                        ("mode only () () []", "mode only () () [] heeds"))
        rows, more = deaf.rows(), keen.rows()
        for one, path in ((TO_SECOND, (2,)), (deaf.with_rows([]), (2,)), (deaf.with_rows(rows[1:]), (2,)), (deaf, (2, 0)),
                          (deaf.with_rows(rows[::-1]), (2, 3)), (deaf.with_rows(rows[2:] + rows[:2]), (2, 2)), (keen, (2, 2)),
                          (keen.with_rows(more[::-1]), (2, 1)), (keen.with_rows(more[3:] + more[:3]), (2, 3)),
                          (deaf.with_rows([rows[2], rows[1], rows[0], rows[3]]), (2, 2)),
                          (totalled(rows=ROWS.replace("busy () to work () (z)", "busy () to rest (red) (z, z)")), (2, 2))):
            for ask in asks:
                with self.assertRaises(BadChange) as caught:
                    ask(one)
                self.assertEqual(caught.exception.path, path)

    def test_unknown_names(self):
        for name in anythings() + ["q", "m", 1, True, None, "self", ("r",), "zero1"]:
            for ask in (lambda: part_role(ODD, name), lambda: judge_role(ODD, name, 7), lambda: part_supervisor(ODD, name),
                        lambda: judge_supervisor(ODD, name, 7)):
                with self.assertRaises(UnknownName) as caught:
                    ask()
                self.assertIs(caught.exception.name, name)
        for ask in (lambda: part_role(ODD, "top"), lambda: judge_role(ODD, "top", 7), lambda: part_supervisor(ODD, "r"),
                    lambda: judge_supervisor(ODD, "s", 7)):
            with self.assertRaises(UnknownName):
                ask()

    def test_equal_values(self):
        for ask in (lambda: rolling(ODD), lambda: part_role(ODD, "r"), lambda: part_supervisor(ODD, "low")):
            self.assertEqual(ask(), ask())

    def test_random_changes(self):
        chosen = random.Random(220)
        counts = {"sleepers": 0, "firsts": 0, "none": 0, "deaf": 0}
        for one in some_changes(221, 60, (0, 0, 1, 2)) + mixed(222, 40):
            one = with_tree(chosen, one) if chosen.randrange(2) else one
            try:
                sleepers, firsts = rolling(one)
            except BadChange as wrong:
                counts["deaf"] += 1
                self.assertEqual(len(wrong.path), 2)
                continue
            self.check(one, plain_sleepers(one), firsts)
            counts["sleepers"] += len(sleepers)
            counts["firsts"] += len(firsts)
            counts["none"] += not sleepers
        self.assertGreater(min(counts.values()), 10, counts)


def plain_sleepers(one):
    found = []
    for role in one.old().roles():
        words = [square(one, control, kind, marking) for control in controls(one.old(), role[0])
                 for kind in one.old().taken(*control[:2]) for marking in all_words(one.old().kind(kind)[2])]
        if any(word is not None for word in words):
            found.append(role[0])
    return tuple(found)


def all_words(marks):
    found = [()]
    for _, sort in marks:
        found = [told + (word,) for told in found for word in BOOK.words(sort)]
    return found


class Views(unittest.TestCase):
    def system(self, one=None):
        one = one or change()
        return System(MEANING, [one.old(), one.new()], [one], (20,), slot_actors(one, MEANING))

    def test_each_part(self):
        system = self.system()
        make_all(system, [("post", 2, (0, "put", (), (0,))), ("bring", 0, 2), ("take", 2, "main"), ("bring", 2, 0), ("move", 1),
                          ("post", 2, (1, "put", (), (8,))), ("bring", 0, 2), ("take", 2, "main"), ("kill", 9, "bad"),
                          ("post", 1, (1, "put", (), (0,))), ("link", 1, 2), ("watch", 3, 1), ("post", 1, (0, "put", (), (0,))),
                          ("bring", 0, 1), ("shift", "low"), ("kill", 6, "bad")])
        actors, *rest = moved_view(system)
        self.assertEqual(actors, (
            (1, 1, ("in", (("r", "m", ("red",)), (7, 1)))), (2, 1, ("in", (("r", "m", ("green",)), (8, 4)))),
            (3, 1, ("in", (("s", "m", ()), ()))), (4, 1, ("in", (("s", "m", ()), ()))), (5, 1, ("out", "closed")),
            (6, 2, ("in", (("r", "m", ("red",)), (7, 6)))), (9, 1, ("out", "bad")), (20, 1, ("in", (("s", "m", ()), ())))))
        self.assertEqual(tuple(rest), view(system)[1:])
        self.assertEqual(rest[0], ((0, ((1, (1, "put", (), (0,))),)), (2, ((8, (1, "put", (), (0,))),))))
        self.assertEqual(rest[1], ((1, "main", ((1, "put", (), (0,)),)),))
        self.assertEqual(rest[2:5], [((1, 2),), ((3, 1),), ((2, (1, "put", (), (7,))),)])
        self.assertEqual(rest[5], (("top", 1, False), ("low", 0, False), ("mid", 0, False), ("zero", 0, True), ("deep", 0, False)))
        self.assertEqual(rest[6], ())

    def test_moved_states(self):
        """An actor of the elder edition has the state to which it would move, with its address for ("self",)."""
        one = change(kinds=KINDS.replace("to m (red) (x, y)", "to m (green) (up(y), self)"))
        system = self.system(one)
        self.assertEqual(moved_view(system)[0][0], (1, 1, ("in", (("r", "m", ("green",)), (101, 1)))))
        before = system.twin()
        make(system, ("move", 1))
        self.assertEqual(moved_view(system), moved_view(before))
        self.assertNotEqual(system, before)
        self.assertEqual(before.state(1), (("r", "m", ("red",)), (7, 1)))

    def test_bad_systems(self):
        """The editions first, then a change that is not total."""
        one = change()
        for editions, changes in (([one.old()], []), ([one.old()] * 3, [read_change(one.old(), one.old(), KINDS).with_rows([])] * 2)):
            with self.assertRaises(BadSystem) as caught:
                moved_view(System(MEANING, editions, changes, (), slot_actors(one, MEANING)))
            self.assertEqual(caught.exception.word, "editions")
        for told in (one.with_rows([]), one.with_rows(one.rows()[1:])):
            with self.assertRaises(BadChange) as caught:
                moved_view(self.system(told))
            self.assertEqual(caught.exception.path, (2,))

    def test_against_a_plain_view(self):
        chosen = random.Random(223)
        for one in some_changes(224, 20, (0,)):
            system = System(MEANING, [one.old(), one.new()], [one], (30,), slot_actors(one, MEANING))
            random_run(chosen, system, 25, make, open_choices, can)
            actors, roads, queues, *rest = seen(system)
            told = moved_view(system)
            self.assertEqual(told[0], tuple(actors))
            self.assertEqual(dict(told[1]), {sender: tuple(pairs) for sender, pairs in roads.items() if pairs})
            self.assertEqual({row[:2]: row[2] for row in told[2]}, {place: tuple(row) for place, row in queues.items() if row})
            self.assertEqual(told[3:], tuple(tuple(part) for part in rest))


class Runs(unittest.TestCase):
    """S10.7: at once and rolling, with equal moved views behind each choice."""

    def test_random_runs(self):
        chosen = random.Random(225)
        counts = {"made": 0, "moved": 0, "slept": 0, "firsts": 0}
        for one in some_changes(226, 40, (0, 0, 1)) + mixed(227, 30):
            one = with_tree(chosen, one) if chosen.randrange(2) else one
            try:
                sleepers, firsts = rolling(one)
            except BadChange:
                continue
            counts["firsts"] += len(firsts)
            self.run_both(chosen, one, sleepers, firsts, counts)
        self.assertGreater(min(counts.values()), 20, counts)

    def run_both(self, chosen, one, sleepers, firsts, counts):
        meaning = chosen.choice([MEANING, fuzzy_meaning(chosen)])
        system = System(meaning, [one.old(), one.new()], [one], (30, 40), slot_actors(one, meaning) + extra_rows(chosen, one))
        for address in system.addresses():
            if chosen.randrange(2):
                system.place(address, some_state(chosen, one.old()))
            if chosen.randrange(3) == 0:
                message = random_message(chosen, system.editions())
                port = system.editions()[message[0]].kind(message[1])[1]
                system.put_in_queue(address, port, message)
            if chosen.randrange(3) == 0:
                system.put_link(address, chosen.choice(system.addresses()))
        for name in names_of(one.old().tree()):
            system.set_team(name, 0, chosen.randrange(2), chosen.randrange(5) == 0)
        at_once = system.twin()
        make_all(at_once, [("shift", name) for name in names_of(one.old().tree())])
        make_all(at_once, [("move", address) for address in at_once.addresses() if at_once.is_in(address)])
        make_all(system, [("shift", name) for name in firsts])
        self.assertEqual(moved_view(system), moved_view(at_once))
        for _ in range(30):
            choice = self.choice(chosen, system, sleepers, counts)
            if choice is None:
                continue
            make(system, choice)
            if choice[0] in ("move", "shift"):
                counts["moved"] += 1
            else:
                counts["made"] += 1
                make(at_once, choice)
            self.assertEqual(moved_view(system), moved_view(at_once))

    def choice(self, chosen, system, sleepers, counts):
        """A choice that can be made, but that no actor in a control of a sleeper takes a message."""
        opened = open_choices(system)
        roll = chosen.randrange(20)
        address = chosen.choice(system.addresses())
        if roll < 13 and opened:
            choice = chosen.choice(opened)
        elif roll < 17:
            choice = ("post", address, random_message(chosen, system.editions()))
        elif roll < 18:
            choice = ("kill", address, chosen.choice(BOOK.words("why")))
        else:
            choice = (chosen.choice(("link", "watch")), address, chosen.choice(system.addresses()))
        if not can(system, choice):
            return None
        if choice[0] == "take" and system.edition(choice[1]) == 0 and system.state(choice[1])[0][0] in sleepers:
            counts["slept"] += 1
            return None
        return choice


def some_state(chosen, edition):
    role = chosen.choice(edition.roles())
    control = chosen.choice(controls(edition, role[0]))
    return (control, tuple(chosen.randrange(9) for _ in edition.mode(*control[:2])[2]))


def extra_rows(chosen, one):
    """First actors of the old edition beside those of the slots."""
    found = []
    for address in (11, 12):
        role = chosen.choice(one.old().roles())
        marking = tuple(chosen.choice(BOOK.words(sort)) for _, sort in role[2][0])
        found.append((address, 0, role[0], marking, tuple(chosen.randrange(9) for _ in role[2][1])))
    return found


class Judging(unittest.TestCase):
    def test_roles(self):
        """One thing otherwise: it is judged as the run of both systems tells."""
        one = totalled(("link m;", "link n;"), ("fail bad;", "fail worse;"))
        parting = part_role(one, "cell")
        told = {True: 0, False: 0}
        others = [0, -1, 3, 10 ** 29, True, None, (), "red", "bad", "put", "gone", ("green",), RED, GREEN, BUSY, [], (1, 2), (1, 1),
                  ("big",), ("small",), "tell", (4,)]
        for path in paths_of(parting):
            part = part_of(parting, path)
            more = [list(part), part[:-1], part + (1,)] if isinstance(part, tuple) else []
            for other in others + more:
                value = replaced(parting, path, other)
                answer = judge_role(one, "cell", value)
                self.assertIs(answer, well_formed(one, "cell", value) and role_difference(one, "cell", value), value)
                told[answer] += 1
        self.assertGreater(min(told.values()), 5)
        self.assertIs(judge_role(one, "kid", parting), False)
        self.assertIs(judge_role(totalled(), "cell", parting), False)
        for value in ((parting[0], RED, (1, 2), "tell", ("small",), (3,)), (Meaning({}), RED, (0, 0), "tell", ("small",), (0,))):
            self.assertIs(judge_role(one, "cell", value), True)
        self.assertIs(judge_role(one, "cell", (parting[0], RED, (1, 2), "tell", ("big",), (3,))), False)
        self.assertIs(judge_role(one, "cell", (parting[0], RED, (1, 2), "gone", ("bad",), (3,))), False)
        for control, things, kind, words, fields in ((BUSY, (1,), "put", ("red",), (1, 2)), (BUSY, (1,), "gone", ("bad",), (1,)),
                                                     (RED, (1, 2), "ask", (), (1,)), (RED, (1, 2), "set", ("red",), (1, 2))):
            self.assertIs(judge_role(one, "cell", (parting[0], control, things, kind, words, fields)), False)

    def test_gone(self):
        one = totalled(("on rest gone { go rest (red) (x, who); }", "on rest gone { go rest (red) (x, up(who)); }"))
        self.assertIs(judge_role(one, "cell", (MEANING, GREEN, (1, 2), "gone", ("bad",), (3,))), True)
        self.assertIs(judge_role(one, "cell", (Meaning({"up": [((3,), 3)]}), GREEN, (1, 2), "gone", ("bad",), (3,))), False)

    def test_anything_for_roles(self):
        one = totalled(("link m;", "link n;"))
        parting = part_role(one, "cell")
        for value in anythings() + [True, 0, None, list(parting), parting[1:], parting + (1,), nested(30), parting[0]]:
            self.assertIs(judge_role(one, "cell", value), False)
        for value in anythings():
            for k in range(6):
                if not isinstance(value, Meaning):
                    self.assertIs(judge_role(one, "cell", replaced(parting, (k,), value)), False)
            for k in (2, 4, 5):
                self.assertIs(judge_role(one, "cell", replaced(parting, (k, 0), value)), False)

    def test_supervisors(self):
        one = change(("top one 2", "top one 1"), ("low all 1", "low behind 1"), ("6 r (red)", "6 r (green)"))
        _, firsts = rolling(one)
        self.assertEqual(firsts, ("top", "low", "mid"))
        told = {True: 0, False: 0}
        for name in firsts:
            meaning, kills = part_supervisor(one, name)
            slots = [slot[0] for slot in one.old().slots()]
            spoilt = [kills, kills[:-1], kills * 2, (), kills[1:], (1,), (1, 1), (2,), (3,), (6,), (5,), (9, 9)]
            spoilt += [kills[:k] + (address,) + kills[k:] for k in range(len(kills) + 1) for address in slots]
            for other in spoilt:
                for mean in (meaning, Meaning({})):
                    answer = judge_supervisor(one, name, (mean, other))
                    self.assertIs(answer, supervisor_difference(one, name, firsts, (mean, other)) is True, (name, other))
                    told[answer] += 1
            for other in ("zero", "deep"):
                self.assertIs(judge_supervisor(one, other, (meaning, kills)), False)
        self.assertGreater(min(told.values()), 10)

    def test_anything_for_supervisors(self):
        one = change(("top one 2", "top one 1"))
        meaning, kills = part_supervisor(one, "top")
        for value in anythings() + [True, 0, (), (meaning,), [meaning, kills], (meaning, list(kills)), (meaning, kills, ()), None,
                                    (kills, meaning), (meaning, (True,) * len(kills)), (meaning, (kills,)), (meaning, ("low",) * 3)]:
            self.assertIs(judge_supervisor(one, "top", value), False)
        for value in anythings() + [0, -1, 7, True, "top", None, (1,)]:
            for told in ((meaning, value), (meaning, kills[:-1] + (value,)), (meaning, kills + (value,)), (meaning, (value,) + kills)):
                self.assertIs(judge_supervisor(one, "top", told), False)

    def test_pairs_of_systems(self):
        """The two systems of a parting begin with equal moved views."""
        for one in (ODD, totalled()):
            pair = begun_pair(one, MEANING, slot_actors(one, MEANING))
            self.assertEqual(moved_view(pair[0]), moved_view(pair[1]))


def well_formed(one, role, value):
    """Whether a value has the form of a parting of a role."""
    if not isinstance(value, tuple) or len(value) != 6 or not isinstance(value[0], Meaning):
        return False
    _, control, things, kind, words, fields = value
    if control not in controls(one.old(), role) or not isinstance(kind, str):
        return False
    if kind not in one.old().taken(*control[:2]):
        return False
    marks, names = one.old().kind(kind)[2:]
    if words not in all_words(marks):
        return False
    for told, due in ((things, one.old().mode(*control[:2])[2]), (fields, names)):
        if not isinstance(told, tuple) or len(told) != len(due) or any(type(k) is not int or k < 0 for k in told):
            return False
    return True


if __name__ == "__main__":
    unittest.main()
