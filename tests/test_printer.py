"""movedactors.printer: the texts that are written, sign by sign."""

import unittest

from movedactors.books import Book
from movedactors.changes import Change
from movedactors.editions import Edition
from movedactors.printer import book_text, change_text, edition_text
from movedactors.reader import read_change
from movedactors.terms import put_in
from samples import (
    KIND_ROWS, ROLE_ROWS, book, chain, change, go, leaf, mark, new_edition, of, old_edition, reg, var, word,
)

BOOK_TEXT = """book {
sort color red green blue;
sort size small big;
prim nil 0;
prim up 1;
prim pair 2;
port main;
port side;
reason bad;
reason worse;
}
"""

OLD_TEXT = """edition {
kind put main (c color, y why) (a, b);
kind ask side () (who);
kind tick main () ();
role cell {
mode idle (r color) (x, z) [main, gone] heeds;
mode busy () (x) [side];
start (p color) (i) if p red {
go idle ($p) (i, up(i));
}
else {
go busy () (pair(self, i));
}
on idle put if c red {
make k cell ($r) (pair(x, m));
make m kid () ();
link k;
link up(a);
watch self;
send k put ($c, $y) (x, m);
send nil() ask () (up(b));
go idle (green) (x, pair(z, k));
}
else if y bad {
stop;
}
else {
make k kid () ();
send a tick () ();
fail worse;
}
on idle tick {
go idle ($r) (z, x);
}
on idle gone if why ended {
link who;
go busy () (up(who));
}
else {
fail bad;
}
on busy ask {
go idle (blue) (who, x);
}
}
role kid {
mode only () () [];
start () () {
go only () ();
}
}
supervisor top all 2 {
slot 1 cell (red) (nil());
supervisor low one 0 {
slot 4 kid () ();
}
slot 7 cell (blue) (pair(nil(), up(nil())));
}
supervisor rest behind 5 {
slot 2 kid () ();
}
}
"""

CHANGE_TEXT = """change {
kind put to set ($c, y[ended: small, closed: big, bad: small, worse: big]) (pair(b, a));
kind ask to query () (who, up(who));
kind tick to beat (closed) ();
role cell to unit (p[red: small, green: big, blue: big], $p) (i, up(i));
role kid to kid () ();
row cell idle (red) to rest (big) (pair(x, self));
row cell busy () to work () (x, nil());
row kid only () to only () ();
}
"""


class Printer(unittest.TestCase):
    def test_samples(self):
        self.assertEqual(book_text(book()), BOOK_TEXT)
        self.assertEqual(edition_text(old_edition()), OLD_TEXT)
        self.assertEqual(change_text(change()), CHANGE_TEXT)

    def test_empty_parts(self):
        self.assertEqual(book_text(Book([], [], [], [])), "book {\n}\n")
        empty = Edition(book(), [], [], ())
        self.assertEqual(edition_text(empty), "edition {\n}\n")
        self.assertEqual(change_text(Change(empty, empty, [], [], [])), "change {\n}\n")

    def test_examples_of_the_document(self):
        shared = Book([("color", ("red",))], [("f", 2), ("nil", 0)], ["main"], [])
        modes = (("idle", (("r1", "color"),), ("a",), ("main", "gone"), True),)
        kinds = [("put", "main", (("q", "color"), ("s", "color")), ("n",))]
        stop, end = leaf(("stop",)), go("idle", (mark("r1"),), (of("nil"),))
        send = (var("self"), "put", (word("red"), mark("r1")), (of("f", var("a"), of("nil")),))
        start = ((), (), leaf(go("idle", (word("red"),), (of("nil"),))))
        handlers = (("idle", "put", ("if", "r1", "red", leaf(end, sends=(send,)), stop)), ("idle", "gone", stop))
        text = edition_text(Edition(shared, kinds, [("r", modes, start, handlers)], ()))
        self.assertIn("\nmode idle (r1 color) (a) [main, gone] heeds;\n", text)
        self.assertIn("\nsend self put (red, $r1) (f(a, nil()));\n", text)
        self.assertIn("\n}\nelse {\n", text)

    def test_nested_questions(self):
        stop = leaf(("stop",))
        body = ("if", "f", "red", ("if", "g", "blue", stop, ("if", "f", "green", stop, stop)),
            ("if", "g", "red", stop, stop))
        modes = (("m", (("f", "color"),), (), ("main",), False), ("n", (), (), (), False))
        handlers = (("m", "k", body),)
        edition = Edition(book(), [("k", "main", (("g", "color"),), ())],
            [("r", modes, ((), (), leaf(go("n"))), handlers)], ())
        self.assertEqual(edition_text(edition), (
            "edition {\nkind k main (g color) ();\nrole r {\nmode m (f color) () [main];\nmode n () () [];\n"
            "start () () {\ngo n () ();\n}\n"
            "on m k if f red if g blue {\nstop;\n}\nelse if f green {\nstop;\n}\nelse {\nstop;\n}\n"
            "else if g red {\nstop;\n}\nelse {\nstop;\n}\n}\n}\n"))

    def test_nested_supervisors(self):
        tree = (("supervisor", "a", "one", 0, (
            ("supervisor", "b", "all", 10 ** 39, (
                ("supervisor", "c", "behind", 2, (("slot", 10 ** 39, "kid", (), ()), ("slot", 2, "kid", (), ()))),)),
                )),)
        kid = ("kid", (("only", (), (), (), False),), ((), (), leaf(go("only"))), ())
        text = edition_text(Edition(book(), [], [kid], tree))
        self.assertTrue(text.endswith(
            "}\n}\nsupervisor a one 0 {\nsupervisor b all 1" + "0" * 39 + " {\nsupervisor c behind 2 {\n"
            "slot 1" + "0" * 39 + " kid () ();\nslot 2 kid () ();\n}\n}\n}\n}\n"))

    def test_rows_in_their_order(self):
        rows = change().rows()[::-1]
        text = change_text(change().with_rows(rows))
        self.assertTrue(text.endswith(
            "row kid only () to only () ();\nrow cell busy () to work () (x, nil());\n"
            "row cell idle (red) to rest (big) (pair(x, self));\n}\n"))

    def test_terms_of_any_size(self):
        deep = reg("x")
        for _ in range(30):
            deep = put_in(chain("up", reg("x"), 100), {("register", "x"): deep})
        rows = ((("cell", "busy", ()), "work", (), (deep, of("nil"))),)
        one = Change(old_edition(), new_edition(), KIND_ROWS, ROLE_ROWS, rows)
        text = change_text(one)
        self.assertIn(" to work () (" + "up(" * 3000 + "x" + ")" * 3000 + ", nil());\n", text)
        self.assertEqual(read_change(old_edition(), new_edition(), text), one)


if __name__ == "__main__":
    unittest.main()
