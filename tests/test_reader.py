"""movedactors.reader: texts that are read, and the first wrong places of texts."""

import random
import re
import unittest

from grammar import Chart, lexemes, wrong_place
from movedactors.books import Book
from movedactors.changes import Change
from movedactors.editions import Edition
from movedactors.errors import ActorsError, BadBook, BadChange, BadEdition, BadText, MixedEditions
from movedactors.printer import book_text, change_text, edition_text
from movedactors.reader import read_book, read_change, read_edition
from samples import (
    BOOK_PARTS, CELL, KID, OLD_KINDS, book, change, go, leaf, mark, new_edition, of, old_edition, replaced, var, word,
)

SMALL_EDITION = (
    "edition{kind k p(f s,g s)(a,b);kind l p()();role r{mode m(x s)(y)[p,q]heeds;mode n()()[];"
    "start(z s)(w)if z on{go m($z,off)(w,f(w,g()),h(w));}else{stop;}on m k{make c r(on,$x)(y,f(y));make d r()();"
    "link y;link f(g(),y);watch self;send c l()();send f(y)k($x)(h(y));fail why;}on m l if x on{stop;}else if x off{"
    "go n()();}else{fail bad;}}role e{start()(){stop;}}supervisor s one 3{slot 1 r(on,off)(g(),f(g()));"
    "supervisor t all 0{slot 2 e()();}supervisor u all 1{}}supervisor v behind 10{}}"
)
SMALL_BOOK = "book{sort a b c;sort d;prim f 2;prim g 0;port p;port q;reason r;reason s;}"
SMALL_CHANGE = (
    "change{kind k to l(a,$b,c[d:e,f:g],h[])(x,f(y,g()));kind m to n()();role r to s($p,q[a:b])(z);"
    "row r m(a,b)to n(c,d)(x,self,f(self));row r n()to o()();}"
)
OTHERS = ("(", ")", "[", "]", "{", "}", ",", ";", ":", "$", "0", "17", "if", "go", "zz", "self", "else", "slot",
    "row", "to")


def place_of(read, *told):
    """The place that BadText tells, or None if the text is of the form."""
    try:
        read(*told)
    except BadText as error:
        return error.place
    except ActorsError:
        pass
    return None


def of_form(head):
    """A function from texts to the place that the reader tells for a form."""
    if head == "BOOK":
        return lambda text: place_of(read_book, text)
    if head == "EDITION":
        return lambda text: place_of(read_edition, book(), text)
    return lambda text: place_of(read_change, old_edition(), new_edition(), text)


class RightTexts(unittest.TestCase):
    def test_what_is_written_is_read_back(self):
        for one in (book(), Book([], [], [], []), Book([("x", ("x", "self", "why"))], [("x", 1)], ["x"], ["x"])):
            self.assertEqual(read_book(book_text(one)), one)
        for one in (old_edition(), new_edition(), Edition(book(), [], [], ())):
            self.assertEqual(read_edition(book(), edition_text(one)), one)
        for rows in (change().rows(), change().rows()[::-1], []):
            one = change().with_rows(rows)
            self.assertEqual(read_change(one.old(), one.new(), change_text(one)), one)
            self.assertEqual(read_change(one.old(), one.new(), change_text(one)).rows(), rows)

    def test_other_blanks(self):
        for text, read, one in (
            (book_text(book()), read_book, book()),
            (edition_text(old_edition()), lambda text: read_edition(book(), text), old_edition()),
            (change_text(change()), lambda text: read_change(old_edition(), new_edition(), text), change()),
        ):
            for blank in ("\n", "  ", " \n \n", "\n\n "):
                spread = blank.join(lexeme for _, lexeme in lexemes(text)[0])
                self.assertEqual(read(spread), one)
                self.assertEqual(read(blank + spread + blank), one)
            dense = re.sub(r"\s+", " ", text)
            dense = re.sub(r"(?<![a-z0-9]) | (?![a-z0-9])", "", dense)
            self.assertNotRegex(dense, r"[^a-z0-9] | [^a-z0-9]|\n")
            self.assertEqual(read(dense), one)

    def test_no_blank_behind_a_number(self):
        self.assertEqual(read_book("book{prim nil 0;prim up 1;}"), Book([], [("nil", 0), ("up", 1)], [], []))
        text = edition_text(old_edition())
        for old, new in (("all 2 {", "all 2{"), ("slot 1 cell", "slot 1cell"), ("slot 4 kid", "slot 4kid")):
            self.assertIn(old, text)
            text = text.replace(old, new)
        self.assertEqual(read_edition(book(), text), old_edition())

    def test_words_of_the_forms_as_names(self):
        words = ("book", "sort", "prim", "port", "reason")
        one = Book([(w, words) for w in words], [(w, 1) for w in words], words, words)
        self.assertEqual(read_book(book_text(one)), one)
        shared = Book([("if", ("else", "do"))], [("go", 1), ("link", 2), ("stop", 0)], ["start"], ["fail"])
        kind = ("make", "start", (("if", "if"),), ("send",))
        stop = leaf(("stop",))
        body = ("if", "else", "else", ("if", "if", "do", stop, leaf(("fail", "fail"))), leaf(
            go("heeds", (mark("else"),), (of("link", var("link"), var("supervisor")),)),
            makes=(("supervisor", "role", (), (of("stop"),)),),
            links=(var("link"), of("link", var("link"), of("go", var("supervisor")))), watches=(var("send"),),
            sends=((of("go", of("stop")), "make", (mark("if"),), (var("link"),)), (var("send"), "make", (word("do"),), (
                of("stop"),)))))
        modes = (("heeds", (("else", "if"),), ("link",), ("start",), True), ("watch", (), (), ("gone",), False))
        start = ((), ("on",), leaf(go("watch")))
        role = ("role", modes, start, (("heeds", "make", body), ("watch", "gone", stop)))
        tree = (("supervisor", "slot", "one", 0, (("slot", 1, "role", (), (of("stop"),)),)),)
        edition = Edition(shared, [kind], [role], tree)
        self.assertEqual(read_edition(shared, edition_text(edition)), edition)
        rows = [(("role", "heeds", ("do",)), "heeds", ("else",), (("var", ("self",)),)),
                (("role", "watch", ()), "watch", (), ())]
        one = Change(edition, edition, [("make", "make", (("table", "if", (("else", "do"), ("do", "do"))),), (
            ("var", ("field", "send")),))], [("role", "role", (), (("var", ("given", "on")),))], rows)
        self.assertEqual(read_change(edition, edition, change_text(one)), one)

    def test_self_in_rows(self):
        text = change_text(change()).replace("(x, nil())", "(self, pair(self, x))")
        one = read_change(old_edition(), new_edition(), text)
        self.assertEqual(one.row(("cell", "busy", ()))[3], (
            ("var", ("self",)), of("pair", ("var", ("self",)), ("var", ("register", "x")))))
        with self.assertRaises(BadChange) as caught:
            read_change(old_edition(), new_edition(), text.replace("(who, up(who))", "(who, up(self))"))
        self.assertEqual(caught.exception.path, (0, 1, 3, 1, 2, 0, 1))
        with self.assertRaises(BadChange) as caught:
            read_change(old_edition(), new_edition(), text.replace("(self, pair", "(self(), pair"))
        self.assertEqual(caught.exception.path, (2, 1, 3, 0, 1))

    def test_repeated_calls(self):
        self.assertEqual(read_book(SMALL_BOOK.replace("sort d;", "")), read_book(SMALL_BOOK.replace("sort d;", "")))


class WrongPlaces(unittest.TestCase):
    def check(self, head, text, chart=None):
        self.assertEqual(of_form(head)(text), wrong_place(head, text, chart), (head, text))

    def test_small_texts_are_of_their_forms(self):
        for head, text in (("BOOK", SMALL_BOOK), ("EDITION", SMALL_EDITION), ("CHANGE", SMALL_CHANGE)):
            self.assertIsNone(wrong_place(head, text))
            self.assertIsNone(of_form(head)(text))

    def test_each_lexeme_left_out_put_in_and_exchanged(self):
        for head, text in (("BOOK", SMALL_BOOK), ("EDITION", SMALL_EDITION), ("CHANGE", SMALL_CHANGE)):
            found = [lexeme for _, lexeme in lexemes(text)[0]]
            chart = Chart(head)
            for k in range(len(found) + 1):
                before, rest = found[:k], found[k:]
                wrongs = [before + rest[1:], before]
                wrongs += [before + [other] + rest for other in OTHERS]
                wrongs += [before + [other] + rest[1:] for other in OTHERS]
                for wrong in wrongs:
                    self.check(head, " ".join(wrong), chart)
                    chart.back_to(k)
                if rest:
                    chart.step(rest[0])

    def test_signs_that_begin_no_lexeme(self):
        for head, text in (("BOOK", SMALL_BOOK), ("EDITION", SMALL_EDITION), ("CHANGE", SMALL_CHANGE)):
            read = of_form(head)
            places = [place for place, _ in lexemes(text)[0]] + [len(text)]
            for place in places:
                for sign in ("A", "\t", "-", "_", ".", "~", "!", "\"", "#", "%", "<", "abcdefghijklm"):
                    if sign[0] != "a":
                        self.assertEqual(read(text[:place] + sign + text[place:]), place)
                        self.assertEqual(read(text[:place] + "\n " + sign + text[place:]), place + 2)
                    self.check(head, text[:place] + " " + sign + " " + text[place:])

    def test_texts_that_end_early(self):
        for head, text in (("BOOK", SMALL_BOOK), ("EDITION", SMALL_EDITION), ("CHANGE", SMALL_CHANGE)):
            read = of_form(head)
            for place, _ in lexemes(text)[0]:
                if place == 0 or text[place - 1] != " ":
                    self.assertEqual(read(text[:place]), place)
                self.assertEqual(read(text[:place] + " \n "), place + 3)
            for blank in ("", " ", "\n\n", "   \n"):
                self.assertEqual(read(blank), len(blank))

    def test_a_wrong_lexeme_ahead_of_a_wrong_sign(self):
        self.assertEqual(place_of(read_book, "book { zz !"), 7)
        self.assertEqual(place_of(read_book, "book { sort !"), 12)
        self.assertEqual(place_of(read_book, "buch !"), 0)
        self.assertEqual(place_of(read_book, "book ! {"), 5)
        self.assertEqual(place_of(read_book, "book { } !"), 9)
        self.assertEqual(place_of(read_book, "book { } book !"), 9)
        self.assertEqual(place_of(read_book, "!"), 0)

    def test_lexemes(self):
        for text, place in (
            ("book{prim f 01;}", 13), ("book{prim f 00;}", 13), ("book{prim f 1a;}", 13), ("book{prim f 1", 13),
            ("book{prim f 12 3;}", 15), ("book{prim f a1;}", 12), ("book{prim f 1abcdefghijklm;}", 13),
            ("book{prim f abcdefghijklm;}", 12),
            ("book{prim abcdefghijklm 1;}", 10), ("book{sort a b1 2;}", 15), ("book{port a1b2;}x", 16),
            ("bookx{}", 0), ("book{port1 x;}", 5), ("book{port 1x;}", 10), ("book{port x2abcdefghijk;}", 10),
            ("book{sort a b 1;}", 14), ("book\t{}", 4), ("book{port x ;\t}", 13), ("booK{}", 0), ("boo", 0),
            ("Book", 0),
        ):
            self.assertEqual(wrong_place("BOOK", text), place, text)
            self.assertEqual(place_of(read_book, text), place, text)
        self.assertEqual(read_book("book{port abcdefghijkl;}").ports(), ["abcdefghijkl", "gone"])
        self.assertEqual(read_book("book{port abcdefghijk1;}").ports(), ["abcdefghijk1", "gone"])
        with self.assertRaises(BadBook) as caught:
            read_book("book{prim f 12345678901234567890;}")
        self.assertEqual(caught.exception.path, (1, 0, 1))

    def test_chosen_lexemes_at_random(self):
        chosen = random.Random(20)
        for head, text in (("BOOK", SMALL_BOOK), ("EDITION", SMALL_EDITION), ("CHANGE", SMALL_CHANGE)):
            found = [lexeme for _, lexeme in lexemes(text)[0]]
            for _ in range(150):
                start, end = sorted(chosen.randrange(len(found) + 1) for _ in range(2))
                at = chosen.randrange(len(found))
                wrong = found[:at] + found[start:start + (end - start) % 9] + found[at + chosen.randrange(4):]
                self.check(head, chosen.choice(("", " ")).join(wrong))


class WrongParts(unittest.TestCase):
    def test_books(self):
        for text, path in (
            ("book{sort d;}", (0, 0, 1)), ("book{sort a b b;}", (0, 0, 1, 1)), ("book{sort a b;sort a c;}", (0, 1, 0)),
            ("book{prim f 3;}", (1, 0, 1)), ("book{prim self 0;}", (1, 0, 0)), ("book{port gone;}", (2, 0)),
            ("book{reason a;reason a;}", (3, 1)), ("book{sort why a;}", (0, 0, 0)),
            ("book{port a;port a;reason why;}", (2, 1)),
        ):
            with self.assertRaises(BadBook) as caught:
                read_book(text)
            self.assertEqual(caught.exception.path, path, text)
            self.assertEqual(place_of(read_book, text + ";"), len(text))

    def test_editions(self):
        text = edition_text(old_edition())
        for old, new, path in (
            ("kind ask side", "kind put side", (0, 1, 0)), ("role kid {", "role cell {", (1, 1, 0)),
            ("fail worse", "fail none", (1, 0, 3, 0, 2, 4, 4, 5, 1)),
            ("link k;", "link q;", (1, 0, 3, 0, 2, 3, 2, 0, 1)),
            ("slot 7", "slot 1", (2, 0, 4, 2, 1)), ("all 2", "both 2", (2, 0, 2)),
            ("slot 4", "slot 0", (2, 0, 4, 1, 4, 0, 1)),
            ("cell (red)", "cell (big)", (2, 0, 4, 0, 3, 0)), ("mode only () () [];", "", (1, 1, 1)),
            ("on busy ask", "on busy put", (1, 0, 3, 3)), ("slot 2 kid () ();", "", (2, 1, 4)),
        ):
            self.assertEqual(text.count(old), 1, old)
            with self.assertRaises(BadEdition) as caught:
                read_edition(book(), text.replace(old, new))
            self.assertEqual(caught.exception.path, path, new)

    def test_changes(self):
        text = change_text(change())
        for old, new, path in (
            ("kind put to set", "kind put to query", (0, 0, 1)), ("worse: big", "worse: red", (0, 0, 2, 1)),
            ("role kid to kid", "role kid to cell", (1, 1, 1)), ("to rest (big)", "to rest (red)", (2, 0, 2, 0)),
            ("row cell busy", "row cell idle", (2, 1, 0)), ("kind tick to beat (closed) ();", "", (0,)),
        ):
            self.assertEqual(text.count(old), 1, old)
            with self.assertRaises(BadChange) as caught:
                read_change(old_edition(), new_edition(), text.replace(old, new))
            self.assertEqual(caught.exception.path, path, new)

    def test_wrong_places_come_first(self):
        other = Edition(Book(*replaced(BOOK_PARTS, (3,), ())), [], [], ())
        text = change_text(change())
        with self.assertRaises(MixedEditions):
            read_change(old_edition(), other, text)
        with self.assertRaises(MixedEditions):
            read_change(old_edition(), other, text.replace("row cell busy", "row cell idle"))
        self.assertEqual(place_of(read_change, old_edition(), other, text + "x"), len(text))
        self.assertEqual(place_of(read_change, old_edition(), other, ""), 0)
        wrong = edition_text(old_edition()).replace("kind ask side", "kind put side")
        self.assertEqual(place_of(read_edition, book(), wrong + "}"), len(wrong))
        self.assertEqual(place_of(read_edition, book(), wrong[:-3]), len(wrong) - 3)

    def test_other_books(self):
        text = edition_text(old_edition())
        with self.assertRaises(BadEdition) as caught:
            read_edition(Book([], [], [], []), text)
        self.assertEqual(caught.exception.path, (0, 0, 1))


class DeepTexts(unittest.TestCase):
    def test_questions_and_supervisors(self):
        stop = leaf(("stop",))
        for left in (True, False):
            body = stop
            for k in range(50):
                body = ("if", "r", ("red", "green", "blue")[k % 3], body, stop) if left else ("if", "r", "red", stop,
                    body)
            role = replaced(CELL, (3, 1, 2), body)
            tree = ("slot", 1, "kid", (), ())
            for k in range(25):
                tree = ("supervisor", f"s{k}", "one", k, (tree, ("slot", k + 2, "kid", (), ())))
            one = Edition(book(), OLD_KINDS, (role, KID), (tree,))
            self.assertEqual(read_edition(book(), edition_text(one)), one)

    def test_long_terms(self):
        text = change_text(change())
        deep = "pair(x, " * 900 + "self" + ")" * 900
        wide = "x"
        for _ in range(11):
            wide = f"pair({wide}, {wide})"
        for term in (deep, wide):
            with_term = text.replace("(x, nil())", f"({term}, nil())")
            one = read_change(old_edition(), new_edition(), with_term)
            self.assertEqual(change_text(one), with_term)
            at = with_term.index(term) + len(term)
            self.assertEqual(place_of(read_change, old_edition(), new_edition(), with_term[:at - 1]), at - 1)


if __name__ == "__main__":
    unittest.main()
