"""movedactors.changes: the path of the first wrong part."""

import unittest

from movedactors.changes import Change
from movedactors.editions import Edition
from movedactors.errors import BadChange
from samples import (
    KID, KIND_ROWS, NEW_CELL, NEW_KINDS, NEW_TREE, ROLE_ROWS, ROWS, SELF, anythings, book, deep_tuple, field, given,
    mark,
    new_edition, of, old_edition, part_of, paths_of, reg, replaced, var, word,
)

PARTS = (KIND_ROWS, ROLE_ROWS, ROWS)
PUT = (0, 0)
CELL = (1, 0)
ROW = (2, 0)


def due_path(path):
    """Where a value that is right nowhere is told to stand, if it stands at a path of PARTS."""
    if len(path) == 3 and path[0] < 2 and path[2] == 0:
        return path[:-1]                     # a row that does not begin with the due name
    if len(path) > 4 and path[0] < 2 and path[2] == 2:
        return path[:4]                      # a changed mark word
    if len(path) > 3 and path[0] == 2 and path[2] == 0:
        return path[:3]                      # a control
    for k in range(4, len(path)):
        whole = part_of(PARTS, path[:k])
        if whole[0] == "var":
            return path[:k] if path[k] == 0 else path[:k] + (1,)
    if len(path) > 4 and path[2] == 3 and part_of(PARTS, path[:-1])[0] == "of" and path[-1] == 0:
        return path[:-1]
    return path


class ChangePaths(unittest.TestCase):
    def path(self, parts, old=None, new=None):
        with self.assertRaises(BadChange) as caught:
            Change(old or old_edition(), new or new_edition(), *parts)
        self.assertIsInstance(caught.exception.path, tuple)
        return caught.exception.path

    def check(self, expected, *changes):
        parts = PARTS
        for path, part in changes:
            parts = replaced(parts, path, part)
        self.assertEqual(self.path(parts), expected, changes)

    def test_each_part_replaced_by_what_is_never_right(self):
        for path in paths_of(PARTS):
            for value in anythings() + [True, False, 0, 1]:
                if isinstance(value, list) and path == (2,):
                    continue
                self.assertEqual(self.path(replaced(PARTS, path, value)), due_path(path), (path, value))

    def test_deep_tuples(self):
        """A tuple may be right as a whole; then a part of it is wrong."""
        for path in paths_of(PARTS):
            due = due_path(path)
            told = self.path(replaced(PARTS, path, deep_tuple(60)))
            self.assertEqual(told[:len(due)], due, path)

    def test_lists_inside(self):
        for path in paths_of(PARTS):
            part = part_of(PARTS, path)
            if isinstance(part, tuple) and len(path) > 1:
                self.assertEqual(self.path(replaced(PARTS, path, list(part))), due_path(path), path)

    def test_members_too_many_or_too_few(self):
        for at in (0, 1):
            part = PARTS[at]
            for rows in (part[:-1], part + part[:1], (), [], list(part) + [7], 7, "abc", {}):
                self.check((at,), ((at,), rows))
            self.check((at, 0), ((at,), part[::-1]))
        for path in ((0, 0), (0, 0, 2), (0, 0, 3), (1, 0, 2), (1, 0, 3), (1, 0), (2, 0), (2, 0, 2), (2, 0, 3),
            (2, 1, 3)):
            part = part_of(PARTS, path)
            self.check(path, (path, part + ("x",)))
            self.check(path, (path, part[:-1]))
            self.check(path, (path, ()))

    def test_kinds(self):
        self.check(PUT, (PUT + (0,), "ask"))
        for kind in ("query", "gone", "put", "unit"):
            self.check(PUT + (1,), (PUT + (1,), kind))
        self.check(PUT + (2,), (PUT + (1,), "beat"))
        self.check(PUT + (3, 0, 2, 0, 1), (PUT + (3, 0, 2, 0), var("a")))
        for wrong in (given("a"), reg("a"), field("c"), field("d"), SELF, ("var", ("field",)), ("var", ["field", "a"]),
                      ("var", ("field", "a", 0)), ("var", ())):
            self.check(PUT + (3, 0, 2, 1, 1), (PUT + (3, 0, 2, 1), wrong))
        self.check(PUT + (3, 0, 1), (PUT + (3, 0), of("nil2")))
        self.check(PUT + (3, 0, 2), (PUT + (3, 0), of("pair", field("a"))))
        self.check(PUT + (3, 0), (PUT + (3, 0), field("a") + (1,)))

    def test_changed_mark_words(self):
        first, second = PUT + (2, 0), PUT + (2, 1)
        for wrong in (mark("y"), mark("d"), mark("a"), word("small"), word("ended"), ("mark", "c", "c"), ("word",), ()):
            self.check(first, (first, wrong))
        pairs = (("ended", "small"), ("closed", "big"), ("bad", "small"), ("worse", "big"))
        wrongs = [
            ("table", "c", pairs), ("table", "s", pairs), ("table", "y", pairs[:-1]), ("table", "y", pairs[::-1]),
            ("table", "y", pairs + pairs[:1]), ("table", "y", list(pairs)), ("table", "y"), ("table", "y", pairs, 1),
            ("table", "y", pairs[:3] + (["worse", "big"],)), ("table", "y", pairs[:3] + (("worse", "red"),)),
            ("table", "y", pairs[:3] + (("worse", "big", "big"),)), ("table", "y", pairs[:3] + (("worst", "big"),)),
            ("table", ["y"], pairs), ("tables", "y", pairs), mark("y"), mark("c"), word("red"), ("table", "y", ()),
        ]
        for wrong in wrongs:
            self.check(second, (second, wrong))
        self.check(first, (first, ("table", "c", (("red", "red"), ("green", "green"), ("blue", "small")))))
        parts = replaced(PARTS, first, ("table", "c", (("red", "blue"), ("green", "blue"), ("blue", "red"))))
        self.assertEqual(Change(old_edition(), new_edition(), *parts).of_kind("put"), parts[0][0])
        self.check(CELL + (2, 1), (CELL + (2, 1), mark("r")))
        self.check(CELL + (2, 1), (CELL + (2, 1), word("big")))
        self.check(CELL + (2, 0), (CELL + (2, 0), mark("p")))

    def test_roles(self):
        self.check(CELL, (CELL + (0,), "kid"))
        for role in ("cell", "set", "rest"):
            self.check(CELL + (1,), (CELL + (1,), role))
        self.check(CELL + (2,), (CELL + (1,), "kid"))
        for wrong in (field("i"), reg("i"), given("x"), given("j"), SELF, var("i")):
            self.check(CELL + (3, 1, 2, 0, 1), (CELL + (3, 1, 2, 0), wrong))

    def test_as_many_terms_as_things(self):
        solo = ("solo", KID[1], ((("p", "color"),), (), KID[2][2]), ())
        old, new = Edition(book(), (), (KID,), ()), Edition(book(), (), (solo,), ())
        right = ("kid", "solo", (word("red"),), ())
        self.assertEqual(Change(old, new, [], [right], []).roles(), [right])
        self.assertEqual(self.path(([], [right[:3] + ((of("nil"),),)], []), old, new), (1, 0, 3))
        self.assertEqual(self.path(([], [right[:2] + ((), ())], []), old, new), (1, 0, 2))

    def test_rows(self):
        controls = [("cell", "idle", ("big",)), ("cell", "idle", ()), ("cell", "only", ()), ("unit", "rest", ("big",)),
                    ("cell", "idle", ["red"]), ("cell", "idle", (word("red"),)), ("cell", "busy"), ()]
        for control in controls:
            self.check(ROW + (0,), (ROW + (0,), control))
        self.check((2, 2, 0), ((2, 2), ROWS[0]))
        self.check((2, 1, 0), ((2, 1, 0), ROWS[0][0]))
        for mode in ("only", "idle", "set"):
            self.check(ROW + (1,), (ROW + (1,), mode))
        self.check((2, 2, 1), ((2, 2, 1), "rest"))
        self.check(ROW + (2, 0), (ROW + (2, 0), "red"))
        self.check(ROW + (2, 0), (ROW + (2, 0), word("big")))
        self.check(ROW + (2,), (ROW + (1,), "work"))
        for wrong in (reg("u"), reg("r"), field("x"), given("i"), var("x"), var("self"), ("var", ("self", "x")),
                      ("var", ("register", "self"))):
            self.check(ROW + (3, 0, 2, 1, 1), (ROW + (3, 0, 2, 1), wrong))
        self.check((2, 1, 3, 0, 1), ((2, 1, 3, 0), reg("z")))

    def test_new_roles_of_rows(self):
        """The modes of a row are those of the role to which the change leads the role of its control."""
        new = Edition(book(), NEW_KINDS, (NEW_CELL, KID), ())
        old = Edition(book(), (), (KID, replaced(KID, (0,), "kid2")), ())
        roles = [("kid", "kid", (), ()), ("kid2", "unit", (word("big"), word("red")), (of("nil"), of("nil")))]
        right = (("kid2", "only", ()), "work", (), (SELF, SELF))
        self.assertEqual(Change(old, new, [], roles, [right]).rows(), [right])
        self.assertEqual(self.path(([], roles, [(("kid2", "only", ()), "only", (), ())]), old, new), (2, 0, 1))

    def test_shapes_of_trees(self):
        low = NEW_TREE[0][4][1]
        trees = [
            (), NEW_TREE[:1], NEW_TREE + (("supervisor", "more", "one", 1, (("slot", 9, "kid", (), ()),)),),
            NEW_TREE[::-1],
            replaced(NEW_TREE, (0, 1), "tip"), replaced(NEW_TREE, (1, 4, 0, 1), 3),
            replaced(NEW_TREE, (0, 4), NEW_TREE[0][4][:2]), replaced(NEW_TREE, (0, 4, 1), ("slot", 5, "kid", (), ())),
            replaced(NEW_TREE, (1, 4, 0), ("supervisor", "more", "one", 1, (("slot", 2, "kid", (), ()),))),
            replaced(NEW_TREE, (0, 4), NEW_TREE[0][4][::-1]),
            replaced(NEW_TREE, (0, 4, 1, 4), low[4] + (("slot", 9, "kid", (), ()),)),
            replaced(NEW_TREE, (0, 4, 0), ("slot", 1, "kid", (), ())),
        ]
        for tree in trees:
            new = Edition(book(), NEW_KINDS, (NEW_CELL, KID), tree)
            self.assertEqual(self.path(PARTS, None, new), (3,), tree)
            self.assertEqual(self.path(replaced(PARTS, (2, 2, 3), 7), None, new), (2, 2, 3))
        same = [
            replaced(NEW_TREE, (0, 2), "behind"), replaced(NEW_TREE, (0, 3), 9),
            replaced(NEW_TREE, (0, 4, 0, 3), ("big", "blue")), replaced(NEW_TREE, (0, 4, 0, 4, 0), of("up", of("nil"))),
        ]
        for tree in same:
            Change(old_edition(), Edition(book(), NEW_KINDS, (NEW_CELL, KID), tree), *PARTS)
        other = Edition(book(), NEW_KINDS, (NEW_CELL, KID, replaced(KID, (0,), "kid2")), NEW_TREE)
        self.assertEqual(self.path(replaced(PARTS, (1, 1, 1), "kid2"), None, other), (3,))

    def test_first_wrong_part(self):
        self.check((0,), ((0,), 7), ((1,), 7), ((2,), 7))
        self.check((0, 2, 3), ((0, 2, 3), 7), ((1,), 7), ((2,), 7))
        self.check((1,), ((1,), 7), ((2,), 7))
        self.check((1, 1, 2), ((1, 1, 2), 7), ((2,), 7))
        self.check((0, 0, 1), ((0, 0), ("put", 7, 7, 7)), ((0, 1), 7))
        self.check((0, 0, 2), ((0, 0), ("put", "set", 7, 7)))
        self.check((0, 0, 2, 0), ((0, 0), ("put", "set", (7, 7), 7)))
        self.check((0, 0, 3), ((0, 0, 3), 7), ((0, 1, 0), 7))
        self.check((2, 0, 0), ((2, 0), (7, 7, 7, 7)))
        self.check((2, 0, 1), ((2, 0), (ROWS[0][0], 7, 7, 7)))
        self.check((2, 0, 2), ((2, 0), (ROWS[0][0], "rest", 7, 7)))
        self.check((2, 0, 3), ((2, 0), (ROWS[0][0], "rest", ("big",), 7)), ((2, 1), 7))
        self.check((2, 0, 3, 0, 2, 0), ((2, 0, 3, 0, 2), (7, 7)))


if __name__ == "__main__":
    unittest.main()
