"""movedactors.chains: composed and turned changes."""

import random
import unittest

from movedactors.chains import composed, turned
from movedactors.changes import Change
from movedactors.derived import derived, met
from movedactors.errors import MixedEditions, NotTurned, TooLong
from movedactors.joint import Joint
from movedactors.obligations import decide_role, decide_row
from movedactors.printer import change_text
from movedactors.raising import changed_message, changed_start
from movedactors.reader import read_change, read_edition
from movedactors.squares import moved_state
from movedactors.terms import put_in, size
from plain_joint import some_changes
from randoms import SORTS, fuzzy_meaning, remembering, renamed_chain
from samples import chain, field, given, mark, of, reg, word
from world import BOOK, FIRST, THIRD, TO_SECOND, TO_THIRD

# Three editions with the same role, whose marks and things a change may mix up as it likes.
TEXT = """
    edition {
        kind put main (c color, d color, y why) (a, b);
        kind ask main (s size) (u);
        role r { mode m (q color) (x, z) []; mode n () (x) []; start (p color, o size) (i, j) { go m ($p) (i, j); } }
    }
"""
ONE, TWO, THREE = [read_edition(BOOK, TEXT + " " * k) for k in range(3)]
KEPT = "kind put to put ($c, $d, $y) (a, b); kind ask to ask ($s) (u); role r to r ($p, $o) (i, j);"
TABLE = ("table", "c", (("red", "green"), ("green", "green")))


def change(kinds, rows=""):
    return read_change(ONE, TWO, f"change {{ {kinds} {rows} }}")


def put(words, terms):
    """The change that has this for put, and leaves the rest as it is."""
    return change(KEPT.replace("($c, $d, $y) (a, b)", f"({words}) ({terms})"))


class Composed(unittest.TestCase):
    def words(self, first, second, *told):
        """What becomes of the marks of put."""
        one = composed(put(first, "a, b"), put(second, "a, b"))
        self.assertEqual(one.of_kind("put")[2], told)

    def test_marks(self):
        """Each form of the second change beside each one of the first; nothing is simplified."""
        same, back = "c[red : red, green : green]", "c[red : green, green : red]"
        kept = ("table", "y", tuple((told, told) for told in SORTS["why"]))
        self.words("$c, $d, $y", "red, $c, bad", word("red"), mark("c"), word("bad"))
        self.words("$d, $d, $y", "$c, $c, $y", mark("d"), mark("d"), mark("y"))
        self.words("$d, red, $y", "$d, $d, $y", word("red"), word("red"), mark("y"))
        self.words("$d, green, $y", f"{same}, {back}, $y", ("table", "d", (("red", "red"), ("green", "green"))),
                   ("table", "d", (("red", "green"), ("green", "red"))), mark("y"))
        self.words("green, red, worse", f"{back}, d[red : green, green : green], $y", word("red"), word("green"), word("worse"))
        self.words(f"{back}, $d, $y", f"{back}, {same}, $y", ("table", "c", (("red", "red"), ("green", "green"))),
                   ("table", "c", (("red", "green"), ("green", "red"))), mark("y"))
        self.words("y[ended : red, closed : green, bad : red, worse : red], $d, $y", f"$c, {back}, $y",
                   ("table", "y", (("ended", "red"), ("closed", "green"), ("bad", "red"), ("worse", "red"))),
                   ("table", "y", (("ended", "green"), ("closed", "red"), ("bad", "green"), ("worse", "green"))), mark("y"))
        told = "y[ended : ended, closed : closed, bad : bad, worse : worse]"
        self.words("$c, $d, $y", f"$c, $d, {told}", mark("c"), mark("d"), kept)
        self.words(f"$c, $d, {told}", "$c, $d, $y", mark("c"), mark("d"), kept)

    def test_terms(self):
        first = put("$c, $d, $y", "pair(b, a), up(b)")
        second = put("$c, $d, $y", "up(b), pair(a, pair(a, nil()))")
        a = of("pair", field("b"), field("a"))
        self.assertEqual(composed(first, second).of_kind("put")[3], (
            of("up", of("up", field("b"))), of("pair", a, of("pair", a, of("nil")))))
        self.assertEqual(composed(second, first).of_kind("put")[3], (
            of("pair", of("pair", field("a"), of("pair", field("a"), of("nil"))), of("up", field("b"))),
            of("up", of("pair", field("a"), of("pair", field("a"), of("nil"))))))

    def test_roles(self):
        first = change(KEPT.replace("($p, $o) (i, j)", "(p[red : green, green : red], small) (pair(j, i), j)"))
        second = change(KEPT.replace("($p, $o) (i, j)", "(o[small : red, big : green], o[small : big, big : small]) (up(i), i)"))
        told = of("pair", given("j"), given("i"))
        self.assertEqual(composed(first, second).of_role("r"), ("r", "r", (word("red"), word("big")), (of("up", told), told)))
        self.assertEqual(composed(second, first).of_role("r")[2], (
            ("table", "o", (("small", "green"), ("big", "red"))), word("small")))

    def test_kinds_that_two_kinds_lead_to(self):
        second = change(KEPT.replace("kind ask to ask ($s) (u)", "kind ask to put (red, green, bad) (u, u)"))
        first = change(KEPT.replace("kind put to put ($c, $d, $y) (a, b)", "kind put to ask (small) (b)"))
        self.assertEqual(composed(first, second).kinds(), [
            ("put", "put", (word("red"), word("green"), word("bad")), (field("b"), field("b"))),
            ("ask", "put", (word("red"), word("green"), word("bad")), (field("u"), field("u")))])
        self.assertEqual(composed(second, first).kinds(), [
            ("put", "ask", (word("small"),), (field("b"),)), ("ask", "ask", (word("small"),), (field("u"),))])

    def test_rows(self):
        """For each row of the first change that leads where the second one has a row, in the order of the first."""
        red, green, n = ("r", "m", ("red",)), ("r", "m", ("green",)), ("r", "n", ())
        first = change(KEPT, "row r n () to m (red) (up(x), self); row r m (green) to n () (pair(z, x)); "
                             "row r m (red) to m (green) (z, x);")
        second = change(KEPT, "row r m (red) to n () (pair(z, self)); row r n () to m (red) (x, x);")
        told = of("pair", reg("z"), reg("x"))
        self.assertEqual(composed(first, second).rows(), [
            (n, "n", (), (of("pair", ("var", ("self",)), ("var", ("self",))),)), (green, "m", ("red",), (told, told))])
        self.assertEqual(composed(second, first).rows(), [
            (red, "m", ("red",), (of("up", of("pair", reg("z"), ("var", ("self",)))), ("var", ("self",)))),
            (n, "m", ("green",), (reg("x"), reg("x")))])
        self.assertEqual(composed(first, second.with_rows([])).rows(), [])
        self.assertEqual(composed(first.with_rows([]), second).rows(), [])

    def test_editions(self):
        told = composed(TO_SECOND, TO_THIRD)
        self.assertEqual((told.old(), told.new()), (FIRST, THIRD))
        self.assertEqual(told.of_kind("ask"), ("ask", "ask", (), (of("up", field("who")),)))
        self.assertEqual(told.of_kind("put"), ("put", "put", (mark("c"),), (field("a"), of("nil"))))
        self.assertEqual(told.of_role("cell"), ("cell", "box", (mark("p"),), (of("up", given("i")), of("up", of("up", given("i"))))))
        self.assertEqual(told.rows(), [(("cell", "idle", ("red",)), "rest", ("red",), (of("pair", reg("x"), ("var", ("self",))),))])

    def test_mixed_editions(self):
        """Ahead of terms that are too long."""
        for first, second in ((TO_THIRD, TO_SECOND), (TO_SECOND, TO_SECOND), (TO_SECOND, put("$c, $d, $y", "a, b"))):
            with self.assertRaises(MixedEditions):
                composed(first, second)
        long = chain("up", reg("x"), 399)
        with self.assertRaises(MixedEditions):
            composed(TO_SECOND.with_rows([(("cell", "idle", ("red",)), "rest", ("red",), (long,))]),
                     change(KEPT).with_rows([(("r", "n", ()), "n", (), (long,))]))

    def test_too_long(self):
        """400 parts are not; each sort of terms counts, of rows those alone that are composed."""
        n, red = ("r", "n", ()), ("r", "m", ("red",))

        def rowed(control, mode, words, *terms):
            return change(KEPT).with_rows([(control, mode, words, terms)])

        for first, second, fits in ((200, 199, True), (199, 200, True), (200, 200, False), (399, 0, True), (399, 1, False),
                                    (0, 399, True), (1, 399, False)):
            one = rowed(n, "n", (), chain("up", reg("x"), first))
            other = rowed(n, "n", (), chain("up", reg("x"), second))
            if fits:
                self.assertEqual(size(composed(one, other).rows()[0][3][0]), first + second + 1)
            else:
                with self.assertRaises(TooLong) as caught:
                    composed(one, other)
                self.assertEqual(caught.exception.limit, 400)
        pairs = chain("pair", reg("x"), 0)
        for _ in range(7):
            pairs = of("pair", pairs, pairs)
        one = rowed(n, "n", (), of("up", of("up", reg("x"))))
        with self.assertRaises(TooLong):
            composed(one, rowed(n, "n", (), pairs))
        self.assertEqual(composed(one, rowed(red, "n", (), pairs)).rows(), [])
        deep = of("pair", field("a"), field("a"))
        for _ in range(6):
            deep = of("pair", deep, deep)
        kinds = [(row[0], row[1], row[2], (deep, field("b")) if row[0] == "put" else row[3]) for row in change(KEPT).kinds()]
        first = Change(ONE, TWO, kinds, change(KEPT).roles(), [])
        self.assertEqual(composed(first, put("$c, $d, $y", "a, b")).kinds(), first.kinds())
        with self.assertRaises(TooLong):
            composed(first, put("$c, $d, $y", "b, pair(a, a)"))
        self.assertEqual(size(composed(first, put("$c, $d, $y", "b, up(a)")).of_kind("put")[3][1]), 256)
        given_deep = put_in(deep, {("field", "a"): given("i")})
        roles = [("r", "r", (mark("p"), mark("o")), (given_deep, given("j")))]
        with self.assertRaises(TooLong):
            composed(Change(ONE, TWO, first.kinds(), roles, []), change(KEPT.replace("(i, j)", "(j, pair(i, i))")))

    def test_the_two_changes_stay(self):
        first, second = change_text(TO_SECOND), change_text(TO_THIRD)
        composed(TO_SECOND, TO_THIRD)
        self.assertEqual((change_text(TO_SECOND), change_text(TO_THIRD)), (first, second))
        self.assertEqual(composed(TO_SECOND, TO_THIRD), composed(TO_SECOND, TO_THIRD))
        self.assertEqual(change_text(composed(TO_SECOND, TO_THIRD)), change_text(composed(TO_SECOND, TO_THIRD)))

    def test_random_chains(self):
        """By things: messages, starts and states that are changed twice; texts that are read back."""
        chosen = random.Random(190)
        many = 0
        chains = [renamed_chain(chosen, 3)[1] for _ in range(25)] + mixed_chains(191, 25)
        for first, second in chains:
            whole = composed(first, second)
            self.assertEqual(read_change(whole.old(), whole.new(), change_text(whole)), whole)
            meaning = fuzzy_meaning(chosen)
            for kind in first.old().kinds():
                words = tuple(chosen.choice(SORTS[sort]) for _, sort in kind[2])
                told = (kind[0], words, tuple(chosen.randrange(9) for _ in kind[3]))
                twice = changed_message(meaning, second, *changed_message(meaning, first, *told))
                self.assertEqual(changed_message(meaning, whole, *told), twice)
            for role in first.old().roles():
                words = tuple(chosen.choice(SORTS[sort]) for _, sort in role[2][0])
                told = (role[0], words, tuple(chosen.randrange(9) for _ in role[2][1]))
                twice = changed_start(meaning, second, *changed_start(meaning, first, *told))
                self.assertEqual(changed_start(meaning, whole, *told), twice)
            rows = []
            for row in first.rows():
                things = tuple(chosen.randrange(9) for _ in first.old().mode(*row[0][:2])[2])
                middle = moved_state(meaning, first, (row[0], things), 5)
                if second.row(middle[0]) is not None:
                    rows.append(row[0])
                    many += 1
                    self.assertEqual(moved_state(meaning, whole, (row[0], things), 5), moved_state(meaning, second, middle, 5))
            self.assertEqual([row[0] for row in whole.rows()], rows)
        self.assertGreater(many, 100)

    def test_alike_and_right(self):
        """What is alike or right in both changes is so in the composed one."""
        chosen = random.Random(192)
        seen = {True: 0, False: 0}
        for one in remembering(193, 40):
            follower = follow(chosen, one)
            whole = Joint(composed(one, follower))
            joints = (Joint(one), Joint(follower))
            for role, _, _, _ in one.old().roles():
                self.assertEqual([decide_role(joint, role)[0] for joint in joints], ["alike", "alike"])
                self.assertEqual(decide_role(whole, role)[0], "alike")
            for row in whole.change().rows():
                first = one.row(row[0])
                second = follower.row((row[0][0],) + first[1:3])
                right = decide_row(joints[0], first)[0] == decide_row(joints[1], second)[0] == "right"
                seen[right] += 1
                if right:
                    self.assertEqual(decide_row(whole, row)[0], "right")
        self.assertGreater(min(seen.values()), 5, seen)


def follow(chosen, one):
    """A change from the new edition of another change to an equal one, with one row for each control."""
    edition = one.new()
    rows = []
    for role in edition.roles():
        for mode in role[1]:
            words_of = [SORTS[sort] for _, sort in mode[1]]
            for words in [(told,) for told in words_of[0]] if words_of else [()]:
                terms = [reg(x) for x in mode[2]]
                if terms and chosen.randrange(4) == 0:
                    terms[-1] = chosen.choice([of("nil"), ("var", ("self",))])
                rows.append(((role[0], mode[0], words), mode[0], words, tuple(terms)))
    return Change(edition, edition, one.kinds(), one.roles(), rows)


def mixed_chains(seed, many):
    """Pairs of changes between the three editions with the same role, which mix up marks and things."""
    chosen = random.Random(seed)
    words = {"color": ("$c", "$d", "red", "green", "c[red : green, green : red]", "d[red : red, green : green]",
                       "y[ended : red, closed : green, bad : red, worse : green]"),
             "why": ("$y", "bad", "c[red : ended, green : worse]",
                     "y[ended : bad, closed : bad, bad : closed, worse : worse]")}
    terms = ("a", "b", "up(a)", "pair(b, a)", "nil()", "pair(a, up(a))")
    held = ("x", "self", "up(x)", "pair(x, self)", "nil()")

    def one():
        told = (f"{chosen.choice(words['color'])}, {chosen.choice(words['color'])}, {chosen.choice(words['why'])}",
                f"{chosen.choice(terms)}, {chosen.choice(terms)}")
        rows = [f"row r n () to n () ({chosen.choice(held)});",
                f"row r m (red) to {chosen.choice(('n () (', 'm (green) (x, '))}{chosen.choice(held)});",
                f"row r m (green) to m (red) ({chosen.choice(held)}, z);"]
        text = KEPT.replace("($c, $d, $y) (a, b)", f"({told[0]}) ({told[1]})").replace(
            "($p, $o) (i, j)", chosen.choice(("(p[red : green, green : red], $o) (j, up(i))", "(red, $o) (i, i)")))
        return change(text, "".join(row for row in rows if chosen.randrange(4)))

    return [(one(), one()) for _ in range(many)]


class Turned(unittest.TestCase):
    def test_renaming(self):
        """Marks, tables and fields in another order; the kinds and roles in the order of the new edition."""
        old = read_edition(BOOK, """
            edition { kind put main (c color, s size, y why) (a, b); kind ask side () (u);
                      role r { mode m () () []; start (p color, q color) (i, j) { go m () (); } }
                      role s { mode m () () []; start () () { go m () (); } }
                      supervisor top one 1 { slot 3 s () (); slot 1 r (red, green) (nil(), nil()); } }
        """)
        new = read_edition(BOOK, """
            edition { kind query side () (w); kind set main (d size, z why, e color) (g, f);
                      role y { mode m () () [] heeds; start () () { go m () (); } }
                      role x { mode m () () []; start (o color, r color) (k, l) { go m () (); } }
                      supervisor top all 0 { slot 3 y () (); slot 1 x (red, red) (nil(), nil()); } }
        """)
        one = read_change(old, new, """
            change { kind put to set (s[small : big, big : small], $y, c[red : green, green : red]) (b, a);
                     kind ask to query () (u);
                     role r to x ($q, p[red : red, green : green]) (j, i); role s to y () ();
                     row r m () to m () (); }
        """)
        told = turned(one)
        self.assertEqual((told.old(), told.new(), told.rows()), (new, old, []))
        self.assertEqual(told.kinds(), [
            ("query", "ask", (), (field("w"),)),
            ("set", "put", (("table", "e", (("red", "green"), ("green", "red"))),
                            ("table", "d", (("small", "big"), ("big", "small"))), mark("z")), (field("f"), field("g")))])
        self.assertEqual(told.roles(), [
            ("y", "s", (), ()),
            ("x", "r", (("table", "r", (("red", "red"), ("green", "green"))), mark("o")), (given("l"), given("k")))])
        self.assertEqual(turned(told), one.with_rows([]))
        self.assertEqual(len(one.rows()), 1)

    def test_tables_in_the_order_of_the_words(self):
        one = put("y[ended : red, closed : red, bad : green, worse : green], $d, $y", "a, b")
        with self.assertRaises(NotTurned):
            turned(one)
        told = put("$c, $d, y[ended : worse, closed : ended, bad : closed, worse : bad]", "b, a")
        self.assertEqual(turned(told).of_kind("put"), ("put", "put", (mark("c"), mark("d"), ("table", "y", (
            ("ended", "closed"), ("closed", "bad"), ("bad", "worse"), ("worse", "ended")))), (field("b"), field("a"))))

    def test_tables_between_sorts(self):
        """From a sort to another one that has as many words."""
        old = read_edition(BOOK, "edition { kind put main (c color) (); }")
        new = read_edition(BOOK, "edition { kind put main (s size) (); }")
        one = read_change(old, new, "change { kind put to put (c[red : big, green : small]) (); }")
        self.assertEqual(turned(one).of_kind("put")[2], (("table", "s", (("small", "green"), ("big", "red"))),))
        for words in ("c[red : big, green : big]", "small"):
            with self.assertRaises(NotTurned):
                turned(read_change(old, new, f"change {{ kind put to put ({words}) (); }}"))
        wide = read_edition(BOOK, "edition { kind put main (y why) (); }")
        with self.assertRaises(NotTurned):
            turned(read_change(old, wide, "change { kind put to put (c[red : bad, green : worse]) (); }"))

    def name(self, told, one):
        with self.assertRaises(NotTurned) as caught:
            turned(one)
        self.assertEqual(caught.exception.name, told)

    def test_each_reason(self):
        for words, terms in (("red, $d, $y", "a, b"), ("$c, $c, $y", "a, b"), ("$d, c[red : red, green : red], $y", "a, b"),
                             ("$c, $d, $y", "a, a"), ("$c, $d, $y", "up(a), b"), ("$c, $d, $y", "a, nil()"),
                             ("$c, c[red : green, green : red], $y", "b, a"), ("$c, $d, bad", "a, b"),
                             ("$c, $d, c[red : bad, green : worse]", "a, b"), ("$c, $d, $y", "b, pair(a, b)")):
            self.name("put", put(words, terms))
        self.name("r", change(KEPT.replace("($p, $o) (i, j)", "($p, small) (i, j)")))
        self.name("r", change(KEPT.replace("($p, $o) (i, j)", "($p, $o) (i, up(j))")))
        self.name("r", change(KEPT.replace("($p, $o) (i, j)", "($p, $o) (j, j)")))
        self.assertEqual(turned(put("$d, $c, $y", "b, a")), put("$d, $c, $y", "b, a"))

    def test_fields_that_are_left_out(self):
        """All fields of the new kind are old ones, but not the other way round."""
        for old, new, row in (("(c color) (a)", "() (a)", "() (a)"), ("(c color) (a)", "(c color) ()", "($c) ()"),
                              ("(c color) (a, b)", "(c color) (a)", "($c) (b)")):
            editions = [read_edition(BOOK, f"edition {{ kind put main {told}; }}") for told in (old, new)]
            self.name("put", read_change(*editions, f"change {{ kind put to put {row}; }}"))

    def test_the_first_name(self):
        """The first old kind that is wrong or leads where an earlier one does; then new kinds; then roles."""
        kinds = ("kind one main () (a);", "kind two main () (a);", "kind three main () (a);", "kind four main () (a);")
        role = "role {0} {{ mode m () () []; start () (i) {{ go m () (); }} }}"
        roles = tuple(role.format(name) for name in ("rone", "rtwo", "rthree", "rfour"))

        def one(lead, role_lead, olds=(3, 3), news=(4, 4)):
            editions = [read_edition(BOOK, "edition {" + "".join(kinds[:many] + roles[:more]) + "}")
                        for many, more in (olds, news)]
            text = "".join(f"kind {name} to {goal}" for name, goal in zip(("one", "two", "three", "four"), lead))
            text += "".join(f"role {name} to {goal}" for name, goal in zip(("rone", "rtwo", "rthree", "rfour"), role_lead))
            return read_change(*editions, f"change {{ {text} }}")

        kept = ("one () (a);", "two () (a);", "three () (a);")
        roles_kept = ("rone () (i);", "rtwo () (i);", "rthree () (i);")
        self.name("four", one(kept, roles_kept))
        self.name("rfour", one(kept, roles_kept, news=(3, 4)))
        self.assertEqual(turned(one(kept, roles_kept, news=(3, 3))).rows(), [])
        self.name("three", one(("two () (a);", "one () (a);", "one () (a);"), roles_kept))
        self.name("two", one(("two () (a);", "one () (up(a));", "one () (a);"), roles_kept))
        self.name("two", one(("two () (a);", "two () (a);", "one () (up(a));"), roles_kept))
        self.name("three", one(kept[:2] + ("three () (nil());",), roles_kept, news=(4, 4)))
        self.name("one", one(("two () (a);", "three () (a);", "four () (a);"), roles_kept))
        self.name("two", one(("four () (a);", "three () (a);", "one () (a);"), roles_kept))
        self.name("rthree", one(kept, roles_kept[:2] + ("rtwo () (i);",), news=(3, 3)))
        self.name("rone", one(kept, ("rtwo () (up(i));", "rtwo () (i);", "rtwo () (i);"), news=(3, 3)))
        self.name("rone", one(kept, ("rtwo () (i);", "rfour () (i);", "rthree () (i);"), news=(3, 4)))
        self.name("four", one(kept, ("rone () (up(i));",) + roles_kept[1:]))

    def test_random_renamings(self):
        chosen = random.Random(195)
        for _ in range(40):
            (one,) = renamed_chain(chosen, 2)[1]
            told = turned(one)
            self.assertEqual((told.old(), told.new()), (one.new(), one.old()))
            self.assertEqual([row[0] for row in told.kinds()], [kind[0] for kind in one.new().kinds()[:-1]])
            self.assertEqual(turned(told), one.with_rows([]))
            self.assertEqual(read_change(one.new(), one.old(), change_text(told)), told)
            meaning = fuzzy_meaning(chosen)
            for kind in one.old().kinds():
                message = (kind[0], tuple(chosen.choice(SORTS[sort]) for _, sort in kind[2]),
                           tuple(chosen.randrange(9) for _ in kind[3]))
                self.assertEqual(changed_message(meaning, told, *changed_message(meaning, one, *message)), message)
            for role in one.old().roles():
                start = (role[0], tuple(chosen.choice(SORTS[sort]) for _, sort in role[2][0]),
                         tuple(chosen.randrange(9) for _ in role[2][1]))
                self.assertEqual(changed_start(meaning, told, *changed_start(meaning, one, *start)), start)

    def test_moves_there_and_back(self):
        """If all roles are alike in both directions, derived moves lead back."""
        many = 0
        for one in some_changes(196, 40, (0,)) + remembering(197, 40):
            back = turned(one)
            there, again = Joint(one), Joint(back)
            roles = [(role[0], one.of_role(role[0])[1]) for role in one.old().roles()]
            if any(decide_role(there, old)[0] != "alike" or decide_role(again, new)[0] != "alike" for old, new in roles):
                continue
            for old, new in roles:
                for control in met(there, old):
                    move = derived(there, control)
                    if move[0] != "move":
                        continue
                    goal = (new,) + move[1:3]
                    self.assertIn(goal, met(again, new))
                    other = derived(again, goal)
                    if other[0] == "move":
                        many += 1
                        self.check_back(there, one, control, move, other)
        self.assertGreater(many, 50)

    def check_back(self, there, one, control, move, other):
        """Each register holds what the terms that lead there and back make of all registers: a row of a kept edition."""
        self.assertEqual((control[0],) + other[1:3], control)
        names = one.new().mode(one.of_role(control[0])[1], move[1])[2]
        table = {("register", x): term for x, term in zip(names, move[3])}
        terms = tuple(put_in(term, table) for term in other[3])
        kinds = [(row[0], row[0], tuple(mark(x) for x, _ in kind[2]), tuple(field(x) for x in kind[3]))
                 for row, kind in zip(one.kinds(), one.old().kinds())]
        roles = [(row[0], row[0], tuple(mark(x) for x, _ in role[2][0]), tuple(given(x) for x in role[2][1]))
                 for row, role in zip(one.roles(), one.old().roles())]
        same = Joint(Change(one.old(), one.old(), kinds, roles, []))
        self.assertEqual(decide_row(same, (control,) + control[1:] + (terms,))[0], "right")


if __name__ == "__main__":
    unittest.main()
