"""movedactors.editions: the methods of editions, and which parts editions may have."""

import unittest

from movedactors.books import Book
from movedactors.editions import Edition
from movedactors.errors import UnknownName
from samples import (
    BOOK_PARTS, CELL, GONE_BODY, KID, OLD_KINDS, OLD_TREE, PUT_BODY, START_BODY, anythings, book, change, go, leaf,
    mark,
    new_edition, of, old_edition, replaced, var, word,
)

GONE = ("gone", "gone", (("why", "why"),), ("who",))


class Editions(unittest.TestCase):
    def unknown(self, name, ask, *told):
        with self.assertRaises(UnknownName) as caught:
            ask(*told)
        self.assertIs(caught.exception.name, name)

    def test_parts(self):
        edition = old_edition()
        self.assertEqual(edition.book(), book())
        self.assertEqual(edition.kinds(), list(OLD_KINDS) + [GONE])
        self.assertEqual(edition.roles(), [CELL, KID])
        self.assertEqual(edition.tree(), OLD_TREE)

    def test_empty_edition(self):
        for parts in (((), (), ()), ([], [], ())):
            edition = Edition(book(), *parts)
            self.assertEqual(edition.kinds(), [GONE])
            self.assertEqual((edition.roles(), edition.tree()), ([], ()))
            self.assertEqual((edition.slots(), edition.supervisors()), ([], []))

    def test_by_name(self):
        edition = old_edition()
        self.assertEqual(edition.kind("ask"), OLD_KINDS[1])
        self.assertEqual(edition.kind("gone"), GONE)
        self.assertEqual(edition.role("kid"), KID)
        self.assertEqual(edition.mode("cell", "busy"), CELL[1][1])
        self.assertEqual(edition.start("cell"), ((("p", "color"),), ("i",), START_BODY))
        self.assertEqual(edition.body("cell", "idle", "put"), PUT_BODY)
        self.assertEqual(edition.body("cell", "idle", "gone"), GONE_BODY)
        self.assertEqual(edition.body("cell", "busy", "ask"), CELL[3][3][2])
        self.assertEqual(edition.taken("cell", "idle"), ["put", "tick", "gone"])
        self.assertEqual(edition.taken("cell", "busy"), ["ask"])
        self.assertEqual(edition.taken("kid", "only"), [])

    def test_unknown_names(self):
        edition = old_edition()
        for x in anythings() + ["cellar", "gone2", "why", "self", True, 0, ("cell",), ["cell"]]:
            self.unknown(x, edition.kind, x)
            self.unknown(x, edition.role, x)
            self.unknown(x, edition.start, x)
            self.unknown(x, edition.mode, x, "idle")
            self.unknown(x, edition.mode, x, x)
            self.unknown(x, edition.mode, "cell", x)
            self.unknown(x, edition.taken, x, "idle")
            self.unknown(x, edition.taken, "cell", x)
            self.unknown(x, edition.body, x, None, None)
            self.unknown(x, edition.body, "cell", x, None)
            self.unknown(x, edition.body, "cell", "idle", x)

    def test_first_argument_that_does_not_exist(self):
        edition = old_edition()
        self.unknown("a1", edition.mode, "a1", "a2")
        self.unknown("a1", edition.taken, "a1", "a2")
        self.unknown("a1", edition.body, "a1", "a2", "a3")
        self.unknown("a2", edition.body, "cell", "a2", "a3")
        self.unknown("a3", edition.body, "cell", "idle", "a3")
        self.unknown("only", edition.mode, "cell", "only")
        self.unknown("cell", edition.kind, "cell")
        self.unknown("put", edition.role, "put")

    def test_kinds_that_a_mode_does_not_take(self):
        edition = old_edition()
        self.unknown("ask", edition.body, "cell", "idle", "ask")
        self.unknown("put", edition.body, "cell", "busy", "put")
        self.unknown("gone", edition.body, "cell", "busy", "gone")
        self.unknown("put", edition.body, "kid", "only", "put")

    def test_slots_and_supervisors(self):
        edition = old_edition()
        self.assertEqual(edition.slots(), [
            (1, "cell", ("red",), (of("nil"),), "top"),
            (4, "kid", (), (), "low"),
            (7, "cell", ("blue",), (of("pair", of("nil"), of("up", of("nil"))),), "top"),
            (2, "kid", (), (), "rest"),
        ])
        self.assertEqual(edition.supervisors(), [
            ("top", "all", 2, (1, "low", 7)), ("low", "one", 0, (4,)), ("rest", "behind", 5, (2,))])

    def test_told_lists_are_new(self):
        edition = old_edition()
        asks = [edition.kinds, edition.roles, edition.slots, edition.supervisors, lambda: edition.taken("cell", "idle")]
        for ask in asks:
            told = ask()
            self.assertIsInstance(told, list)
            self.assertIsNot(told, ask())
            told.append("x")
            self.assertNotEqual(told, ask())
        self.assertEqual(edition, old_edition())

    def test_lists_may_be_passed_and_are_not_kept(self):
        kinds, roles = list(OLD_KINDS), [CELL, KID]
        edition = Edition(book(), kinds, roles, OLD_TREE)
        self.assertEqual((kinds, roles), (list(OLD_KINDS), [CELL, KID]))
        kinds.clear()
        roles[0] = None
        self.assertEqual(edition, old_edition())
        self.assertEqual(edition.kinds(), list(OLD_KINDS) + [GONE])
        self.assertEqual(edition.role("cell"), CELL)

    def test_equality(self):
        self.assertIs(old_edition() == old_edition(), True)
        self.assertIs(old_edition() != old_edition(), False)
        self.assertIs(old_edition() == new_edition(), False)
        parts = (OLD_KINDS, (CELL, KID), OLD_TREE)
        others = [
            replaced(parts, (0, 0, 3), ("b", "a")), replaced(parts, (2, 0, 3), 3), replaced(parts, (2, 0, 2), "one"),
            replaced(parts, (1, 0, 1, 0, 4), False), replaced(parts, (1, 0, 3, 1, 2, 5, 2, 0), word("red")),
            replaced(parts, (2, 0, 4, 0, 1), 11), replaced(parts, (2,), ()), replaced(parts, (1,), (KID, CELL)),
            replaced(parts, (1, 1, 1, 0, 3), ("side",)[:0]),
        ]
        for other in others[:-1]:
            self.assertIs(old_edition() == Edition(book(), *other), False)
            self.assertIs(old_edition() != Edition(book(), *other), True)
        self.assertIs(old_edition() == Edition(book(), *others[-1]), True)
        more = Book(*replaced(BOOK_PARTS, (3,), ("bad", "worse", "worst")))
        self.assertIs(old_edition() == Edition(more, *parts), False)
        for value in (None, 0, True, "", parts, list(parts), book(), change()):
            self.assertIs(old_edition() == value, False)

    def test_right_parts(self):
        """What S1.1 to S1.7 allow."""
        modes = (("m", (("f", "why"),), ("g",), ("gone", "side", "main"), True), ("n", (), (), (), False))
        start = ((), (), leaf(go("m", (word("ended"),), (var("self"),))))
        stop = leaf(("stop",))
        handlers = (
            ("m", "k", leaf(go("n"), makes=(("who", "r", (), ()), ("c", "r", (), ())), links=(var("c"), var("who")))),
            ("m", "gone", ("if", "why", "bad", ("if", "f", "closed", stop, leaf(go("n"))), leaf(
                go("m", (mark("why"),), (of("up", of("pair", var("g"), var("who"))),)),
                watches=(var("who"), var("g"))))),
        )
        tree = (("supervisor", "s", "one", 0, (("slot", 10 ** 40, "r", (), ()),)),)
        edition = Edition(book(), [("k", "side", (), ())], [("r", modes, start, handlers)], tree)
        self.assertEqual(edition.taken("r", "m"), ["k", "gone"])
        self.assertEqual(edition.body("r", "m", "gone"), handlers[1][2])
        self.assertEqual(edition.slots(), [(10 ** 40, "r", (), (), "s")])

    def test_names_may_come_again_elsewhere(self):
        modes = (("x", (("x", "color"),), (), (), False),)
        start = ((("x", "color"),), ("y",), leaf(go("x", (mark("x"),), ())))
        tree = (("supervisor", "x", "one", 0, (("slot", 1, "x", ("red",), (of("nil"),)),)),)
        edition = Edition(book(), [("x", "main", (("x", "color"),), ())], [("x", modes, start, ())], tree)
        self.assertEqual(edition.start("x"), start)

    def test_parameters_may_stand_several_times_in_a_start(self):
        modes = (("m", (), ("a", "b"), (), False),)
        start = ((), ("i",), leaf(go("m", (), (var("i"), of("pair", var("i"), var("self"))))))
        self.assertEqual(Edition(book(), [], [("r", modes, start, ())], ()).start("r"), start)


if __name__ == "__main__":
    unittest.main()
