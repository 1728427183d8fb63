"""movedactors.changes: the methods of changes, and which parts changes may have."""

import unittest

from movedactors.books import Book
from movedactors.changes import Change, words_by_row
from movedactors.editions import Edition
from movedactors.errors import BadChange, MixedEditions, UnknownName
from movedactors.terms import put_in
from samples import (
    BOOK_PARTS, KIND_ROWS, KID, NEW_CELL, NEW_KINDS, NEW_TREE, ROLE_ROWS, ROWS, SELF, anythings, book, chain, change,
    field, given, mark, new_edition, of, old_edition, reg, replaced, word,
)


def made(kinds=KIND_ROWS, roles=ROLE_ROWS, rows=ROWS):
    return Change(old_edition(), new_edition(), kinds, roles, rows)


class Changes(unittest.TestCase):
    def unknown(self, name, ask):
        with self.assertRaises(UnknownName) as caught:
            ask(name)
        self.assertIs(caught.exception.name, name)

    def test_parts(self):
        one = change()
        self.assertEqual(one.old(), old_edition())
        self.assertEqual(one.new(), new_edition())
        self.assertEqual(one.kinds(), list(KIND_ROWS))
        self.assertEqual(one.roles(), list(ROLE_ROWS))
        self.assertEqual(one.rows(), list(ROWS))
        self.assertEqual(made(rows=ROWS[::-1]).rows(), list(ROWS[::-1]))

    def test_of_kind_and_of_role(self):
        one = change()
        self.assertEqual(one.of_kind("ask"), KIND_ROWS[1])
        self.assertEqual(one.of_role("cell"), ROLE_ROWS[0])
        for name in ("set", "unit", "cell", "gone", "self"):
            self.unknown(name, one.of_kind)
        for name in ("unit", "put", "gone", "idle"):
            self.unknown(name, one.of_role)
        for value in anythings() + [True, 0, ("put",)]:
            self.unknown(value, one.of_kind)
            self.unknown(value, one.of_role)

    def test_row(self):
        one = change()
        self.assertEqual(one.row(("cell", "idle", ("red",))), ROWS[0])
        self.assertEqual(one.row(("cell", "busy", ())), ROWS[1])
        self.assertEqual(one.row(("kid", "only", ())), ROWS[2])
        nothing = [
            ("cell", "idle", ("green",)), ("cell", "idle", ["red"]), ["cell", "idle", ("red",)], ("cell", "idle"),
            ("cell", "idle", ("red",), 1), ("cell", "busy", ("red",)), ("cell", "busy", []), (["cell"], {}, ({},)),
            ("cell", {}, ()), ("cell", "idle", ({},)), ("cell", "idle", {"red": 1}), "cell", ("cell", "idle", "red"),
            (),
        ]
        for value in nothing + anythings() + [True, 0, tuple(anythings()), tuple(anythings()[:3])]:
            self.assertIsNone(one.row(value))

    def test_with_rows(self):
        one = change()
        other = one.with_rows([ROWS[1]])
        self.assertEqual(other.rows(), [ROWS[1]])
        self.assertEqual(other, made(rows=(ROWS[1],)))
        self.assertEqual(one, change())
        self.assertEqual(one.with_rows(()).rows(), [])
        for rows, path in ((7, (2,)), ([ROWS[0], ROWS[0]], (2, 1, 0)), ([7], (2, 0))):
            with self.assertRaises(BadChange) as caught:
                one.with_rows(rows)
            self.assertEqual(caught.exception.path, path)
        self.assertEqual(one.rows(), list(ROWS))

    def test_told_lists_are_new(self):
        one = change()
        for ask in (one.kinds, one.roles, one.rows):
            told = ask()
            self.assertIsInstance(told, list)
            self.assertIsNot(told, ask())
            told[0] = None
            self.assertNotEqual(told, ask())
        self.assertEqual(one, change())

    def test_lists_may_be_passed_and_are_not_kept(self):
        parts = (list(KIND_ROWS), list(ROLE_ROWS), list(ROWS))
        one = made(*parts)
        self.assertEqual(parts, (list(KIND_ROWS), list(ROLE_ROWS), list(ROWS)))
        for part in parts:
            part.clear()
        self.assertEqual(one, change())
        rows = [ROWS[0]]
        other = one.with_rows(rows)
        rows[0] = 7
        self.assertEqual(other.rows(), [ROWS[0]])

    def test_equality(self):
        self.assertIs(change() == change(), True)
        self.assertIs(change() != change(), False)
        for rows in (ROWS[::-1], (ROWS[1], ROWS[2], ROWS[0]), list(ROWS)):
            self.assertIs(made(rows=rows) == change(), True)
        busy = [(("cell", "idle", (c,)), "work", (), (reg("x"), of("nil"))) for c in ("red", "green",
            "blue")] + [ROWS[1]]
        self.assertIs(made(rows=busy) == made(rows=busy[::-1]), True)
        others = [
            made(rows=ROWS[:2]), made(rows=()), made(rows=replaced(ROWS, (0, 2, 0), "small")),
            made(rows=replaced(ROWS, (0, 3, 0), reg("x"))), made(rows=replaced(ROWS, (0, 3, 0, 2, 1), reg("z"))),
            made(rows=replaced(ROWS, (0, 0, 2, 0), "blue")),
            made(kinds=replaced(KIND_ROWS, (0, 2, 0), word("red"))),
            made(kinds=replaced(KIND_ROWS, (0, 2, 1, 2, 0, 1), "big")),
            made(roles=replaced(ROLE_ROWS, (0, 3, 0), of("nil"))),
            Change(old_edition(), Edition(book(), NEW_KINDS, (NEW_CELL, KID), replaced(NEW_TREE, (0, 3), 2)),
                   KIND_ROWS, ROLE_ROWS, ROWS),
            Change(Edition(book(), old_edition().kinds()[:-1], old_edition().roles(),
                           replaced(old_edition().tree(), (1, 3), 6)), new_edition(), KIND_ROWS, ROLE_ROWS, ROWS),
        ]
        for other in others:
            self.assertIs(change() == other, False)
            self.assertIs(change() != other, True)
        for value in (None, True, 0, "", (), [], book(), old_edition(), list(ROWS)):
            self.assertIs(change() == value, False)

    def test_editions_with_other_books(self):
        more = Book(*replaced(BOOK_PARTS, (3,), ("bad", "worse", "worst")))
        new = Edition(more, NEW_KINDS, (NEW_CELL, KID), NEW_TREE)
        for parts in ((KIND_ROWS, ROLE_ROWS, ROWS), (7, 7, 7)):
            with self.assertRaises(MixedEditions):
                Change(old_edition(), new, *parts)

    def test_empty_change(self):
        empty = Edition(book(), (), (), ())
        one = Change(empty, empty, (), [], ())
        self.assertEqual((one.kinds(), one.roles(), one.rows()), ([], [], []))
        two = Change(empty, new_edition().__class__(book(), NEW_KINDS, (NEW_CELL, KID), ()), [], (), [])
        self.assertEqual(two.new().roles(), [NEW_CELL, KID])

    def test_words_by_row(self):
        marks = old_edition().kind("put")[2]
        row = KIND_ROWS[0]
        self.assertEqual(words_by_row(row, marks, ("red", "ended")), ("red", "small"))
        self.assertEqual(words_by_row(row, list(marks), ["blue", "closed"]), ("blue", "big"))
        self.assertEqual(words_by_row(row, marks, ("green", "worse")), ("green", "big"))
        self.assertEqual(words_by_row(KIND_ROWS[2], (), ()), ("closed",))
        self.assertEqual(words_by_row(KIND_ROWS[1], [], []), ())
        params = old_edition().start("cell")[0]
        self.assertEqual(words_by_row(ROLE_ROWS[0], params, ("red",)), ("small", "red"))
        self.assertEqual(words_by_row(ROLE_ROWS[0], params, ["blue"]), ("big", "blue"))
        several = ("put", "k", (mark("y"), word("small"), mark("c"), mark("y")), ())
        self.assertEqual(words_by_row(several, marks, ("red", "bad")), ("bad", "small", "red", "bad"))
        for words in (("red", "ended"), ["red", "ended"]):
            self.assertIsInstance(words_by_row(row, marks, words), tuple)

    def test_terms_of_any_size(self):
        """Terms that the package made, deeper than calls may be."""
        deep = reg("x")
        for _ in range(20):
            deep = put_in(chain("up", reg("x"), 100), {("register", "x"): deep})
        rows = ((("cell", "busy", ()), "work", (), (deep, SELF)),)
        one, two = made(rows=rows), made(rows=rows)
        self.assertIs(one == two, True)
        self.assertIs(one == change(), False)
        other = made(rows=((("cell", "busy", ()), "work", (), (of("up", deep), SELF)),))
        self.assertIs(one == other, False)
        wrong = put_in(deep, {("register", "x"): reg("q")})
        with self.assertRaises(BadChange) as caught:
            made(rows=((("cell", "busy", ()), "work", (), (wrong, SELF)),))
        self.assertEqual(caught.exception.path, (2, 0, 3, 0) + (2, 0) * 2000 + (1,))

    def test_right_parts(self):
        rows = [
            (("cell", "idle", (color,)), "work", (), (of("pair", reg("x"), reg("x")), of("pair", reg("x"), SELF)))
            for color in ("red", "green", "blue")
        ]
        self.assertEqual(made(rows=rows).rows(), rows)
        kinds = replaced(KIND_ROWS, (0, 3), (of("pair", field("a"), field("a")),))
        self.assertEqual(made(kinds=kinds).of_kind("put"), kinds[0])
        roles = replaced(ROLE_ROWS, (0, 3), (given("i"), given("i")))
        self.assertEqual(made(roles=roles).of_role("cell"), roles[0])
        self.assertEqual(Change(old_edition(), old_edition(), [
            ("put", "put", (("table", "c", (("red", "red"), ("green", "red"), ("blue", "green"))), mark("y")),
             (field("b"), of("nil"))),
            ("ask", "ask", (), (field("who"),)), ("tick", "tick", (), ())],
            [("cell", "cell", (mark("p"),), (given("i"),)), ("kid", "kid", (), ())], []).rows(), [])


if __name__ == "__main__":
    unittest.main()
