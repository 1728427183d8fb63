"""movedactors.books: books, their wrong parts and their methods."""

import unittest

from movedactors.books import Book
from movedactors.errors import BadBook, UnknownName
from samples import BOOK_PARTS, anythings, book, change, deep_tuple, old_edition, paths_of, replaced

EMPTY = ((), (), (), ())


class Books(unittest.TestCase):
    def path(self, *parts):
        with self.assertRaises(BadBook) as caught:
            Book(*parts)
        self.assertIsInstance(caught.exception.path, tuple)
        return caught.exception.path

    def wrong(self, at, part):
        """The path of the wrong part when one of the four parts of the book of the samples is another one."""
        return self.path(*replaced(BOOK_PARTS, (at,), part))

    def test_parts(self):
        one = book()
        self.assertEqual(one.sorts(), [
            ("color", ("red", "green", "blue")), ("size", ("small", "big")),
            ("why", ("ended", "closed", "bad", "worse"))])
        self.assertEqual(one.primitives(), [("nil", 0), ("up", 1), ("pair", 2)])
        self.assertEqual(one.ports(), ["main", "side", "gone"])
        self.assertEqual(one.reasons(), ["bad", "worse"])

    def test_empty_book(self):
        for parts in (EMPTY, ([], [], [], [])):
            one = Book(*parts)
            self.assertEqual(one.sorts(), [("why", ("ended", "closed"))])
            self.assertEqual((one.primitives(), one.ports(), one.reasons()), ([], ["gone"], []))

    def test_words_and_counts(self):
        one = book()
        self.assertEqual(one.words("color"), ["red", "green", "blue"])
        self.assertEqual(one.words("why"), ["ended", "closed", "bad", "worse"])
        self.assertEqual([one.count(name) for name in ("nil", "up", "pair")], [0, 1, 2])
        for name in ("zzz", "red", "why", "", "self", True, 0, 1, ("color",)):
            if name != "why":
                with self.assertRaises(UnknownName) as caught:
                    one.words(name)
                self.assertIs(caught.exception.name, name)
            with self.assertRaises(UnknownName) as caught:
                one.count(name)
            self.assertIs(caught.exception.name, name)
        for value in anythings():
            for ask in (one.words, one.count):
                with self.assertRaises(UnknownName) as caught:
                    ask(value)
                self.assertIs(caught.exception.name, value)

    def test_told_lists_are_new(self):
        one = book()
        for ask in (one.sorts, one.primitives, one.ports, one.reasons, lambda: one.words("why")):
            told = ask()
            self.assertIsInstance(told, list)
            self.assertIsNot(told, ask())
            told.append("x")
            told[0] = None
            self.assertNotEqual(told, ask())
        self.assertEqual(one, book())

    def test_lists_may_be_passed_and_are_not_kept(self):
        parts = [list(part) for part in BOOK_PARTS]
        one = Book(*parts)
        self.assertEqual(parts, [list(part) for part in BOOK_PARTS])
        for part in parts:
            part.clear()
        self.assertEqual(one, book())
        self.assertEqual(one.ports(), ["main", "side", "gone"])

    def test_equality(self):
        self.assertIs(book() == book(), True)
        self.assertIs(book() != book(), False)
        others = [
            replaced(BOOK_PARTS, (0, 0, 1, 1), "yellow"), replaced(BOOK_PARTS, (0, 0, 0), "colour"),
            replaced(BOOK_PARTS, (1, 1, 1), 2), replaced(BOOK_PARTS, (1, 1, 0), "down"),
            replaced(BOOK_PARTS, (2, 0), "front"), replaced(BOOK_PARTS, (3, 1), "worst"),
            replaced(BOOK_PARTS, (3,), ("worse", "bad")), replaced(BOOK_PARTS, (2,), ("side", "main")),
            replaced(BOOK_PARTS, (1,), BOOK_PARTS[1][::-1]), replaced(BOOK_PARTS, (0,), BOOK_PARTS[0][::-1]), EMPTY,
        ]
        for parts in others:
            self.assertIs(book() == Book(*parts), False)
            self.assertIs(book() != Book(*parts), True)
        for value in [None, 1, True, "", (), BOOK_PARTS, list(BOOK_PARTS), old_edition(), change()]:
            self.assertIs(book() == value, False)
            self.assertIs(value == book(), False)

    def test_names_may_come_again_elsewhere(self):
        one = Book([("x", ("x", "self", "why"))], [("x", 1)], ["x"], ["x"])
        self.assertEqual(one.words("x"), ["x", "self", "why"])
        two = Book([("p", ("gone", "closed", "ended")), ("q", ("gone",))], [], [], [])
        self.assertEqual(two.words("q"), ["gone"])

    def test_each_part_replaced_by_what_is_never_right(self):
        for path in paths_of(BOOK_PARTS):
            for value in anythings():
                if len(path) > 1 or not isinstance(value, (list, tuple)):
                    self.assertEqual(self.path(*replaced(BOOK_PARTS, path, value)), path, value)

    def test_deep_tuples(self):
        """A tuple may be right as a whole; then a part of it is wrong."""
        for path in paths_of(BOOK_PARTS):
            due = path
            told = self.path(*replaced(BOOK_PARTS, path, deep_tuple(60)))
            self.assertEqual(told[:len(due)], due, path)

    def test_truth_values_and_numbers(self):
        for path in paths_of(BOOK_PARTS):
            for value in (True, False, 7):
                self.assertEqual(self.path(*replaced(BOOK_PARTS, path, value)), path, value)

    def test_four_parts(self):
        for at in range(4):
            for value in (None, True, 0, "", "abc", {}, book()):
                self.assertEqual(self.wrong(at, value), (at,))

    def test_sorts(self):
        red = ("red",)
        self.assertEqual(self.wrong(0, [["color", red]]), (0, 0))
        self.assertEqual(self.wrong(0, [("color",)]), (0, 0))
        self.assertEqual(self.wrong(0, [("color", red, red)]), (0, 0))
        self.assertEqual(self.wrong(0, [("color", red), ("color", red)]), (0, 1, 0))
        for name in ("why", "self", "closed", "gone", "ended", "Color", ""):
            self.assertEqual(self.wrong(0, [("size", red), (name, red)]), (0, 1, 0))
        self.assertEqual(self.wrong(0, [("color", ())]), (0, 0, 1))
        self.assertEqual(self.wrong(0, [("color", ["red"])]), (0, 0, 1))
        self.assertEqual(self.wrong(0, [("color", ("red", "blue", "red"))]), (0, 0, 1, 2))
        self.assertEqual(self.wrong(0, [("color", ("red", "Blue"))]), (0, 0, 1, 1))

    def test_primitives(self):
        for count in (3, -1, True, False, None, "1", (), 10 ** 40):
            self.assertEqual(self.wrong(1, [("f", count)]), (1, 0, 1))
        self.assertEqual(self.wrong(1, [("f", 1), ("f", 2)]), (1, 1, 0))
        self.assertEqual(self.wrong(1, [("self", 1)]), (1, 0, 0))
        self.assertEqual(self.wrong(1, [["f", 1]]), (1, 0))
        self.assertEqual(self.wrong(1, [("f", 1, 1)]), (1, 0))

    def test_ports_and_reasons(self):
        for at in (2, 3):
            self.assertEqual(self.wrong(at, ["a", "b", "a"]), (at, 2))
            for name in ("why", "self", "closed", "gone", "ended", "A", ("a",)):
                self.assertEqual(self.wrong(at, ["a", name]), (at, 1))

    def test_first_wrong_part(self):
        bad = ("color", ("red", "red"))
        self.assertEqual(self.path([bad], 1, 1, 1), (0, 0, 1, 1))
        self.assertEqual(self.path([("A", ())], [], [], []), (0, 0, 0))
        self.assertEqual(self.path([("a", ()), ()], [], [], []), (0, 0, 1))
        self.assertEqual(self.path([], [("A", 7)], ["A"], ["A"]), (1, 0, 0))
        self.assertEqual(self.path([], [("a", 7), 7], ["A"], ["A"]), (1, 0, 1))
        self.assertEqual(self.path([], [], ["A"], 0), (2, 0))
        self.assertEqual(self.path([], [], 0, 0), (2,))


if __name__ == "__main__":
    unittest.main()
