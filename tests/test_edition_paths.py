"""movedactors.editions: the path of the first wrong part."""

import unittest

from movedactors.editions import Edition
from movedactors.errors import BadEdition
from samples import (
    CELL, KID, OLD_KINDS, OLD_TREE, anythings, book, deep_tuple, go, leaf, mark, of, part_of, paths_of, replaced, var,
    word,
)

PARTS = (OLD_KINDS, (CELL, KID), OLD_TREE)
RED = (1, 0, 3, 0, 2, 3)      # the leaf of PUT_BODY that goes
REST = (1, 0, 3, 0, 2, 4)     # the other part of PUT_BODY
START = (1, 0, 2, 2)
TAGS = ("if", "do", "var", "of", "word", "mark", "go", "stop", "fail", "supervisor", "slot")


def due_path(path):
    """Where a value that is right nowhere is told to stand, if it stands at a path of PARTS."""
    if path in (RED + (5,), RED + (5, 0)):
        return RED + (2,)     # a leaf that does not go has no links
    if path in ((1, 0, 3, 2, 2, 3, 5), (1, 0, 3, 2, 2, 3, 5, 0)):
        return (1, 0, 3, 2, 2, 3, 2)
    if path in (RED + (1, 1), RED + (1, 1, 0)):
        return RED + (1, 0, 3, 0, 2, 1, 1)     # its child stands in a term ahead of it
    whole = part_of(PARTS, path[:-1])
    in_handler = len(path) == 5 and path[0] == 1 and path[2] == 3 and path[4] < 2
    if in_handler or path[-1] == 0 and isinstance(whole[0], str) and whole[0] in TAGS and path[0] != 0:
        return path[:-1]
    return path


class EditionPaths(unittest.TestCase):
    def path(self, parts):
        with self.assertRaises(BadEdition) as caught:
            Edition(book(), *parts)
        self.assertIsInstance(caught.exception.path, tuple)
        return caught.exception.path

    def check(self, expected, *changes):
        """The first wrong part when parts of PARTS at several paths are other ones, is at the path that is expected."""
        parts = PARTS
        for path, part in changes:
            parts = replaced(parts, path, part)
        self.assertEqual(self.path(parts), expected, changes)

    def test_each_part_replaced_by_what_is_never_right(self):
        for path in paths_of(PARTS):
            for value in anythings():
                if isinstance(value, list) and path in ((0,), (1,)):
                    continue
                self.assertEqual(self.path(replaced(PARTS, path, value)), due_path(path), (path, value))

    def test_deep_tuples(self):
        """A tuple may be right as a whole; then a part of it is wrong."""
        for path in paths_of(PARTS):
            due = due_path(path)
            told = self.path(replaced(PARTS, path, deep_tuple(60)))
            self.assertEqual(told[:len(due)], due, path)

    def test_truth_values_and_numbers(self):
        for path in paths_of(PARTS):
            part = part_of(PARTS, path)
            for value in (True, False, 0, 1, 3):
                if isinstance(part, str) or isinstance(part, tuple) or isinstance(part, bool) != isinstance(value,
                    bool):
                    self.assertEqual(self.path(replaced(PARTS, path, value)), due_path(path), (path, value))

    def test_lists_inside(self):
        for path in paths_of(PARTS):
            part = part_of(PARTS, path)
            if isinstance(part, tuple) and len(path) > 1 or path == (2,):
                self.assertEqual(self.path(replaced(PARTS, path, list(part))), due_path(path), path)

    def test_wholes_that_have_a_member_more_or_less(self):
        fixed = [(0, 0), (1, 0), (1, 0, 1, 0), (1, 0, 2), (1, 0, 3), (1, 0, 3, 0), (1, 0, 3, 0, 2), RED, RED + (1, 0),
                 RED + (1, 0, 2), RED + (1, 0, 3), RED + (1, 0, 3, 0), RED + (1, 0, 3, 0, 2), RED + (1, 0, 2, 0),
                 RED + (4, 0), RED + (4, 0, 2), RED + (4, 0, 3), RED + (4, 0, 0), RED + (5, 2), RED + (5, 3),
                 REST + (3, 5), REST + (4, 5), START + (3, 5), START + (3, 5, 2), START + (3, 5, 3), START,
                 (2, 0), (2, 0, 4, 0), (2, 0, 4, 0, 3), (2, 0, 4, 0, 4), (0, 0, 2, 0), (1, 0, 1, 0, 1, 0)]
        for path in fixed:
            part = part_of(PARTS, path)
            self.check(path, (path, part + ("x",)))
            self.check(path, (path, part[:-1]))
            self.check(path, (path, ()))

    def test_kinds(self):
        self.check((0, 1, 0), ((0, 1, 0), "put"))
        for name in ("gone", "self", "why", "closed", "ended"):
            self.check((0, 1, 0), ((0, 1, 0), name))
        for port in ("gone", "front", "put", "why"):
            self.check((0, 1, 1), ((0, 1, 1), port))
        self.check((0, 0, 2, 1, 0), ((0, 0, 2, 1, 0), "c"))
        self.check((0, 0, 2, 1, 1), ((0, 0, 2, 1, 1), "colour"))
        self.check((0, 0, 3, 0), ((0, 0, 3, 0), "c"))
        self.check((0, 0, 3, 1), ((0, 0, 3, 1), "a"))
        self.check((0, 0, 3, 1), ((0, 0, 3, 1), "self"))

    def test_heads_of_roles(self):
        self.check((1, 1, 0), ((1, 1, 0), "cell"))
        self.check((1, 0, 1), ((1, 0, 1), ()))
        self.check((1, 0, 1, 1, 0), ((1, 0, 1, 1, 0), "idle"))
        self.check((1, 0, 1, 0, 2, 0), ((1, 0, 1, 0, 2, 0), "r"))
        self.check((1, 0, 1, 0, 2, 1), ((1, 0, 1, 0, 2, 1), "x"))
        self.check((1, 0, 1, 0, 3, 1), ((1, 0, 1, 0, 3), ("main", "main")))
        self.check((1, 0, 1, 0, 3, 0), ((1, 0, 1, 0, 3), ("gone2", "main")))
        for heeds in (0, 1, "True", None):
            self.check((1, 0, 1, 0, 4), ((1, 0, 1, 0, 4), heeds))
        self.check((1, 0, 2, 1, 0), ((1, 0, 2, 1, 0), "p"))
        self.check((1, 0, 2, 0, 0, 1), ((1, 0, 2, 0, 0, 1), "red"))

    def test_handlers_that_are_not_due(self):
        handlers = CELL[3]
        self.check((1, 0, 3), ((1, 0, 3), handlers[:3]))
        self.check((1, 0, 3), ((1, 0, 3), handlers + handlers[:1]))
        self.check((1, 0, 3), ((1, 0, 3), list(handlers)))
        self.check((1, 1, 3), ((1, 1, 3), handlers))
        self.check((1, 0, 3, 0), ((1, 0, 3), (handlers[1], handlers[0], handlers[2], handlers[3])))
        self.check((1, 0, 3, 1), ((1, 0, 3, 1), handlers[0]))
        self.check((1, 0, 3, 3), ((1, 0, 3, 3, 1), "put"))
        self.check((1, 0, 3, 3), ((1, 0, 3, 3, 0), "idle"))
        self.check((1, 0, 3), ((1, 0, 1, 1, 3), ("side", "gone")))
        self.check((1, 0, 3, 1), ((1, 0, 1, 0, 3), ("main", "side")))

    def test_registers_and_fields_with_a_common_name(self):
        self.check((1, 0, 3, 0), ((1, 0, 1, 0, 2, 1), "b"))
        self.check((1, 0, 3, 0), ((1, 0, 1, 0, 2, 1), "c"))
        self.check((1, 0, 3, 0), ((0, 0, 3, 1), "r"))
        self.check((1, 0, 3, 0), ((0, 0, 2, 0, 0), "z"))
        self.check((1, 0, 3, 3), ((0, 1, 3, 0), "x"))
        self.check((1, 0, 3, 2), ((1, 0, 1, 0, 2, 1), "who"), ((1, 0, 3, 0, 2), leaf(("stop",))),
                   ((1, 0, 3, 1, 2), leaf(("stop",))))

    def test_questions(self):
        put = (1, 0, 3, 0, 2)
        for name in ("a", "x", "m", "p", "why", "red"):
            self.check(put + (1,), (put + (1,), name))
        self.check(put + (2,), (put + (2,), "small"))
        self.check(put + (2,), (put + (2,), "why"))
        self.check((1, 0, 3, 2, 2, 2), ((1, 0, 3, 2, 2, 2), "red"))
        self.check(START + (1,), (START + (1,), "r"))
        self.check(put + (3,), (put + (3,), ("if", "c", "red", leaf(("stop",)))))
        self.check(put + (4, 4, 1), (put + (4, 4), ("if", "zz", 5, 5, 5)))
        self.check(put + (4, 4, 2), (put + (4, 4), ("if", "r", 5, 5, 5)))
        self.check(put + (4, 4, 3), (put + (4, 4), ("if", "r", "red", 5, 5)))
        self.check(put + (4, 4, 4), (put + (4, 4), ("if", "r", "red", leaf(("stop",)), 5)))

    def test_makes(self):
        make = RED + (1, 0)
        for name in ("r", "x", "z", "c", "y", "a", "b", "self", "gone"):
            sub = ((RED + (5, 3, 1), var("z")), (RED + (2,), ()), (RED + (4, 0, 0), var("m")))
            self.check(make + (0,), (make + (0,), name), *sub)
        self.check(RED + (1, 1, 0), (RED + (1, 1, 0), "k"), (make + (3, 0), var("x")), (RED + (4, 0, 3, 1), var("x")))
        self.check(make + (1,), (make + (1,), "idle"))
        self.check(make + (2, 0, 1), (make + (2, 0), mark("y")))
        self.check(make + (2, 0, 1), (make + (2, 0), mark("p")))
        self.check(make + (2, 0, 1), (make + (2, 0), word("small")))
        self.check(make + (2, 0), (make + (2, 0), ("table", "r", ())))
        self.check(make + (3,), (make + (3,), (var("x"), var("x"))))
        self.check(make + (2,), (make + (1,), "kid"))

    def test_children_are_known_in_all_terms_of_their_leaf(self):
        make = RED + (1, 0)
        later = RED + (1, 1)
        self.check(later, (later, ("m",)))
        self.check(later + (1,), (later, ("m", "none", 7, 7)))
        self.check(make + (3, 0, 2, 1, 1), (later, ["m", "kid", (), ()]))
        self.check(make + (3, 0, 2, 1, 1), (later, ("self", "kid", (), ())))
        self.check(make + (3, 0, 2, 1, 1), (later, ()))
        self.check(make + (3, 0, 2, 1, 1), (later, ("M", "kid", (), ())))
        self.check(make + (3, 0, 2, 1, 1), (later, (["m"], "kid", (), ())))
        self.check(REST + (4, 4, 0, 0, 1), (REST + (4, 4, 0, 0), var("m")))
        self.check(REST + (3, 5), (REST + (3, 5), go("busy", (), (var("k"),)) + ("x",)))
        self.check(REST + (3, 5, 3, 0, 1), (REST + (3, 5), go("busy", (), (var("k"),))))

    def test_terms(self):
        link = RED + (2, 1)
        for name in ("c", "r", "i", "who", "nil", "put"):
            self.check(link + (2, 0, 1), (link + (2, 0), var(name)))
        self.check(link + (1,), (link, of("add", var("x"))))
        self.check(link + (2,), (link, of("up")))
        self.check(link + (2,), (link, of("nil", var("x"))))
        self.check(link + (2,), (link, of("pair", var("x"))))
        self.check(link + (2, 1, 2, 0, 1), (link, of("pair", var("x"), of("up", var("i")))))
        self.check(link, (link, ("var", "x", "x")))
        self.check(link, (link, ("of", "nil")))
        self.check(link, (link, "x"))
        self.check(link + (1,), (link, ("var", ("register", "x"))))

    def test_sends(self):
        send = RED + (4, 0)
        for kind in ("gone", "idle", "why", "main"):
            self.check(send + (1,), (send + (1,), kind))
        self.check(send + (2, 1, 1), (send + (2, 1), mark("c")))
        self.check(send + (2, 0, 1), (send + (2, 0), word("ended")))
        self.check(send + (2,), (send + (1,), "ask"))
        self.check(send + (0, 1), (send + (0,), var("c")))

    def test_ends(self):
        end = RED + (5,)
        self.check(end + (1,), (end + (1,), "only"))
        self.check(end + (2,), (end + (1,), "busy"))
        self.check(end + (2, 0, 1), (end + (2, 0), mark("y")))
        self.check(end + (3,), (end + (3,), (var("x"),)))
        self.check(REST + (4, 5, 1), (REST + (4, 5, 1), "ended"))
        self.check(REST + (4, 5, 1), (REST + (4, 5, 1), "closed"))
        for wrong in (("halt",), ("stop", "bad"), ("fail",), ("fail", "bad", "bad"), ("go", "idle", ()), (), "stop"):
            self.check(REST + (4, 5), (REST + (4, 5), wrong))

    def test_thing_registers_that_stand_twice_in_a_go(self):
        terms = RED + (5, 3)
        self.check(terms + (1,), (terms, (var("x"), var("x"))))
        self.check(terms + (1, 2, 0), (terms, (of("up", var("z")), of("pair", var("z"), var("a")))))
        self.check(terms + (0, 2, 1), (terms, (of("pair", var("x"), var("x")), var("x"))))
        self.check(terms + (1, 1), (terms, (var("x"), var("k2"))))
        for name in ("a", "self", "k", "m"):
            Edition(book(), *replaced(PARTS, terms, (var(name), of("pair", var(name), var(name)))))
        many = of("pair", var("x"), of("pair", var("x"), var("x")))
        Edition(book(), *replaced(PARTS, RED + (2, 0), many))
        Edition(book(), *replaced(PARTS, RED + (1, 0, 3, 0), many))
        Edition(book(), *replaced(PARTS, RED + (4, 0, 3), (many, many)))

    def test_leaves_that_do_not_go(self):
        self.check(REST + (3, 2), (REST + (3, 2), (var("x"),)))
        self.check(REST + (3, 3), (REST + (3, 3), (var("x"),)))
        self.check(REST + (4, 2), (REST + (4, 2), ("what", "ever")))
        self.check(REST + (4, 3), (REST + (4, 3), (7,)))
        self.check(RED + (2,), (RED + (5,), ("stop",)))
        self.check(RED + (3,), (RED + (5,), ("stop",)), (RED + (2,), ()))
        self.check(RED + (2,), (RED + (5,), ("go", "idle", ())))
        self.check(RED + (5, 1), (RED + (5,), ("go", 7, 7, 7)))
        self.check(RED + (2, 0, 1), (RED + (5,), ("go", 7, 7, 7)), (RED + (2, 0), var("q")))

    def test_starts(self):
        yes = START + (3,)
        self.check(yes + (1,), (yes + (1,), (("k", "kid", (), ()),)))
        self.check(yes + (2,), (yes + (2,), (var("i"),)))
        self.check(yes + (3,), (yes + (3,), (var("i"),)))
        self.check(yes + (4,), (yes + (4,), ((var("i"), "tick", (), ()),)))
        for end in (("stop",), ("fail", "bad"), ("fail", "none"), ("fail",), ("go", "idle"), "go"):
            self.check(yes + (5,), (yes + (5,), end))
        self.check(yes + (5, 3, 0, 1), (yes + (5, 3, 0), var("x")))
        self.check(yes + (5, 2, 0, 1), (yes + (5, 2, 0), mark("r")))
        self.check(yes + (5, 1), (yes + (5, 1), "only"))
        self.check(yes + (4,), (yes + (4,), ("x",)), (yes + (5,), ("stop",)))

    def test_tree(self):
        slot = (2, 0, 4, 0)
        self.check((2, 0), ((2, 0), OLD_TREE[0][4][0]))
        self.check((2, 1, 1), ((2, 1, 1), "low"))
        self.check((2, 0, 4, 1, 1), ((2, 0, 4, 1, 1), "top"))
        self.check((2, 0, 1), ((2, 0, 1), "self"))
        for way in ("two", "every", "ALL", 1):
            self.check((2, 0, 2), ((2, 0, 2), way))
        for limit in (-1, True, False, "1", None):
            self.check((2, 0, 3), ((2, 0, 3), limit))
        self.check((2, 1, 4), ((2, 1, 4), ()))
        for address in (0, -1, True, "1", None):
            self.check(slot + (1,), (slot + (1,), address))
        self.check((2, 1, 4, 0, 1), ((2, 1, 4, 0, 1), 4))
        self.check((2, 0, 4, 2, 1), ((2, 0, 4, 2, 1), 1))
        self.check((2, 0, 4, 2, 1), (slot + (1,), 7))
        self.check(slot + (2,), (slot + (2,), "idle"))
        self.check(slot + (3, 0), (slot + (3, 0), "small"))
        self.check(slot + (3, 0), (slot + (3, 0), word("red")))
        self.check(slot + (3,), (slot + (2,), "kid"))
        self.check(slot + (4,), (slot + (4,), ()))
        for name in ("i", "self", "x"):
            self.check(slot + (4, 0, 1), (slot + (4, 0), var(name)))
            self.check((2, 0, 4, 2, 4, 0, 2, 1, 1), ((2, 0, 4, 2, 4, 0, 2, 1), var(name)))
        self.check(slot, (slot + (0,), "supervisor"), (slot, OLD_TREE[0][4][0][:4]))
        self.check(slot + (1,), (slot + (0,), "supervisor"))
        self.check((2, 0), ((2, 0, 0), "slot"))

    def test_turns(self):
        """Two wrong parts at once: kinds, heads of all roles, bodies and handlers by role, tree."""
        body = ((1, 0, 2, 2), "x")
        handler = ((1, 0, 3, 1, 2), "x")
        head = ((1, 1, 1, 0, 4), "x")
        kind = ((0, 2, 0), "Tick")
        tree = ((2, 0, 0), "x")
        self.check(kind[0], kind, head, body, handler, tree)
        self.check(head[0], head, body, handler, tree)
        self.check(body[0], body, handler, tree)
        self.check(handler[0], handler, ((1, 1, 2, 2), "x"), tree)
        self.check((1, 1, 2, 2), ((1, 1, 2, 2), "x"), tree)
        self.check((1, 0, 3), ((1, 0, 3), "x"), ((1, 1, 2, 2), "x"), tree)
        self.check((1, 0, 2, 1, 0), ((1, 0, 2, 1, 0), "x y"), ((1, 0, 3), "x"), body)
        self.check((1, 1, 2), ((1, 0, 3), "x"), ((1, 1, 2), "x"))
        self.check((2, 0), tree, ((2, 1, 1), "top"))

    def test_parts_before_their_members(self):
        self.check((0, 0), ((0, 0, 0), "Put"), ((0, 0), ("Put", 1)))
        self.check((0, 0, 0), ((0, 0), ("Put", 1, 1, 1)))
        self.check((0, 0, 1), ((0, 0), ("put", 1, 1, 1)))
        self.check((0, 0, 2), ((0, 0), ("put", "main", 1, 1)))
        self.check((0, 0, 3), ((0, 0), ("put", "main", (), 1)))
        self.check((1, 0, 3, 0), ((1, 0, 1, 0, 2, 1), "b"), ((1, 0, 3, 0, 2), "x"))
        self.check(RED + (1, 0, 3, 0), (RED + (1, 0, 3), ("x",)), (RED + (1, 1), "x"))
        self.check(RED + (1,), (RED + (1,), "x"), (RED + (2,), "x"))
        self.check(RED + (2, 0), (RED + (2,), ("x", "y")), (RED + (4,), "x"))
        self.check(RED + (3,), (RED + (3,), "x"), (RED + (4,), "x"))
        self.check(RED + (4,), (RED + (4,), "x"), (RED + (5, 1), "x"))
        self.check((2, 0, 4, 1, 4), ((2, 0, 4, 1, 4), ()), ((2, 0, 4, 2), "x"))
        self.check((2, 0, 2), ((2, 0), ("supervisor", "top", 7, 7, 7)))
        self.check((2, 0, 4, 0, 1), ((2, 0, 4, 0), ("slot", 0, 7, 7, 7)))
        self.check((2, 0, 4, 0, 3), ((2, 0, 4, 0), ("slot", 1, "cell", 7, 7)))

    def test_deep_parts(self):
        """Bodies and trees that are nested deep, with something wrong at their ends."""
        stop = leaf(("stop",))
        body, path = "x", (1, 0, 3, 1, 2)
        for _ in range(50):
            body, path = ("if", "r", "red", stop, body), path + (4,)
        self.check(path, ((1, 0, 3, 1, 2), body))
        tree, path = ("slot", 1, "none", (), ()), (2, 0)
        for k in range(50):
            tree, path = ("supervisor", f"s{k}", "one", 1, (tree,)), path + (4, 0)
        self.check(path + (2,), ((2,), (tree,)))


if __name__ == "__main__":
    unittest.main()
