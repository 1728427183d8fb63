"""movedactors.terms: variables, wrong parts, measures, parts and putting in."""

import unittest

from movedactors.terms import depth, is_variable, part_at, put_in, size, variables, wrong_part
from samples import Same, anythings, book, chain, nested, of, paths_of, replaced, var

PRIMITIVES = [("nil", 0), ("up", 1), ("pair", 2), ("self", 1)]
TERM = of("pair", of("up", of("pair", var("x"), of("nil"))), of("pair", var(("field", 0, "y")), var("x")))


def full(deep, name):
    """A term of 2 ** (deep + 1) - 1 parts whose variables are all different."""
    if deep == 0:
        return var((name, deep))
    return of("pair", full(deep - 1, name + "a"), full(deep - 1, name + "b"))


class Variables(unittest.TestCase):
    def test_right_ones(self):
        for thing in ("x", "self", "why", "abcdefghijkl", ("self",), ("a", 0), ("a", "b"), ("a", 1, "b"),
                      ("child", 3, "k", 10 ** 40), ("a", "b", "c", "d")):
            self.assertIs(is_variable(thing), True, thing)

    def test_wrong_ones(self):
        for thing in ("", "X", "abcdefghijklm", "1", (), (0,), (0, "a"), ("A",), ("a", -1), ("a", True), ("a", False),
                      ("a", None), ("a", ("b",)), ("a", ["b"]), ("a", {}), ("a", "b", "c", "d", "e"), ["a"], True, 0, 1,
                      ("a", "B"), ("a", ""), ((),), ("a", 1, 2, 3, 4), ("a", book())):
            self.assertIs(is_variable(thing), False, thing)
        for thing in anythings():
            self.assertIs(is_variable(thing), False)
            self.assertIs(is_variable(("a", thing)), False)
            self.assertIs(is_variable((thing,)), False)


class WrongParts(unittest.TestCase):
    def test_terms(self):
        for term in (TERM, var("x"), of("nil"), of("self", var("self")), full(5, "a")):
            self.assertIsNone(wrong_part(PRIMITIVES, term))
            self.assertIsNone(wrong_part(tuple(PRIMITIVES), term))
        self.assertEqual(wrong_part([], TERM), ())
        self.assertIsNone(wrong_part([], var("x")))

    def test_wholes(self):
        for thing in (("var",), ("var", "x", "x"), ("var", "X"), ("of", "nil"), ("of", "nil", (), ()),
            ("of", "none", ()),
                      ("of", "nil", []), ["of", "nil", ()], ["var", "x"], ("of", "up", ()), ("of", "nil", (var("x"),)),
                      ("of", ["nil"], ()), ("off", "nil", ()), (), ("x",), "x", True, 0, ("of", "pair", "ab"),
                      ("of", 0, ()),
                      ("of", "pair", (var("x"),)), ("of", "pair", (1, 2, 3)), ("var", ()), ("var", True)):
            self.assertEqual(wrong_part(PRIMITIVES, thing), (), thing)
            self.assertEqual(wrong_part(PRIMITIVES, of("pair", var("x"), of("up", thing))), (1, 0), thing)
        for thing in anythings():
            self.assertEqual(wrong_part(PRIMITIVES, thing), ())
            self.assertEqual(wrong_part(PRIMITIVES, ("var", thing)), ())
            self.assertEqual(wrong_part(PRIMITIVES, ("of", thing, ())), ())
            self.assertEqual(wrong_part(PRIMITIVES, ("of", "up", (thing,))), (0,))
            self.assertEqual(wrong_part(PRIMITIVES, ("of", "up", thing)), ())

    def test_first_one(self):
        self.assertEqual(wrong_part(PRIMITIVES, of("pair", of("up", 1), 2)), (0, 0))
        self.assertEqual(wrong_part(PRIMITIVES, of("pair", 1, of("up", 2))), (0,))
        self.assertEqual(wrong_part(PRIMITIVES, of("pair", of("none", 1), 2)), (0,))
        self.assertEqual(wrong_part(PRIMITIVES, of("pair", of("pair", var("x"), 1), of("none"))), (0, 1))
        self.assertEqual(wrong_part(PRIMITIVES, of("none", 1)), ())

    def test_each_place(self):
        """A value that is right nowhere, put in everywhere: the smallest term around it is wrong."""
        for path in paths_of(TERM):
            whole = [k for k in range(len(path)) if k % 2 == 0 and path[k] != 2]
            due = tuple(path[k] for k in range(1, whole[0] if whole else len(path) - len(path) % 2, 2))
            self.assertEqual(wrong_part(PRIMITIVES, replaced(TERM, path, {})), due, path)

    def test_deep_ones(self):
        self.assertEqual(wrong_part(PRIMITIVES, chain("up", 5, 59)), (0,) * 59)
        self.assertIsNone(wrong_part(PRIMITIVES, chain("up", var("x"), 5000)))


class Measures(unittest.TestCase):
    def test_size_and_depth(self):
        for term, many, deep in ((var("x"), 1, 0), (of("nil"), 1, 1), (of("up", var("x")), 2, 1), (TERM, 8, 4),
                                 (of("up", of("nil")), 2, 2), (of("pair", var("x"), of("up", of("nil"))), 4, 3),
                                 (of("pair", of("up", var("x")), var("y")), 4, 2), (full(11, "a"), 4095, 11),
                                 (chain("up", var("x"), 300), 301, 300), (chain("up", of("nil"), 300), 301, 301),
                                 (chain("up", var("x"), 20000), 20001, 20000)):
            self.assertEqual(size(term), many)
            self.assertEqual(depth(term), deep)

    def test_depth_is_the_greatest(self):
        for one, other in ((chain("up", of("nil"), 4), var("x")), (var("x"), chain("up", of("nil"), 4))):
            self.assertEqual(depth(of("pair", one, other)), 6)

    def test_variables(self):
        self.assertEqual(variables(TERM), ["x", ("field", 0, "y")])
        self.assertEqual(variables(of("pair", var("b"), of("pair", var("a"), var("b")))), ["b", "a"])
        self.assertEqual(variables(of("pair", var("x"), of("pair", var("y"), var("a")))), ["x", "y", "a"])
        self.assertEqual(variables(of("nil")), [])
        self.assertEqual(variables(var(("self",))), [("self",)])
        told = variables(TERM)
        told.append("z")
        self.assertEqual(variables(TERM), ["x", ("field", 0, "y")])

    def test_part_at(self):
        for path, part in (((), TERM), ((0,), TERM[2][0]), ((0, 0), TERM[2][0][2][0]), ((0, 0, 1), of("nil")),
                           ((1, 0), var(("field", 0, "y"))), ((1, 1), var("x")), ((0, 0, 0), var("x"))):
            self.assertEqual(part_at(TERM, path), part)
        for path in ((2,), (0, 1), (-1,), (1, -1), (0, 0, 1, 0), (1, 1, 0), (0, 0, 0, 0), (True,), (False,),
            (1, True), [0],
                     [], "0", ("0",), (None,), 0, None, True, ((0,),), (0, [0]), (10 ** 40,), {}, nested(60), book(),
                     tuple(anythings()), (0, 0, 2)):
            self.assertIsNone(part_at(TERM, path), path)
        for path in anythings():
            self.assertIsNone(part_at(TERM, path))
            self.assertIsNone(part_at(TERM, (0, path)))
        self.assertEqual(part_at(chain("up", var("x"), 5000), (0,) * 5000), var("x"))


class PuttingIn(unittest.TestCase):
    def test_at_once(self):
        table = {"x": var("y"), "y": var("x")}
        self.assertEqual(put_in(of("pair", var("x"), var("y")), table), of("pair", var("y"), var("x")))
        table = {"x": of("up", var("x")), ("f", 1): var("x")}
        self.assertEqual(put_in(of("pair", var("x"), var(("f", 1))), table), of("pair", of("up", var("x")), var("x")))
        self.assertEqual(put_in(var("x"), {"x": of("pair", var("x"), var("x"))}), of("pair", var("x"), var("x")))

    def test_others_stay(self):
        self.assertEqual(put_in(TERM, {}), TERM)
        self.assertEqual(put_in(TERM, {"y": of("nil"), ("field", 0): of("nil")}), TERM)
        self.assertEqual(put_in(of("pair", var("x"), var("z")), {"x": of("nil")}), of("pair", of("nil"), var("z")))
        self.assertEqual(put_in(of("nil"), {"nil": var("x")}), of("nil"))

    def test_order_of_members(self):
        self.assertEqual(put_in(TERM, {"x": var("z"), ("field", 0, "y"): of("nil")}),
                         of("pair", of("up", of("pair", var("z"), of("nil"))), of("pair", of("nil"), var("z"))))

    def test_the_table_stays(self):
        table = {"x": var("y")}
        put_in(TERM, table)
        self.assertEqual(table, {"x": var("y")})

    def test_great_terms(self):
        great = full(10, "a")
        table = {variable: of("up", var(variable)) for variable in variables(great)}
        self.assertEqual(size(put_in(great, table)), size(great) + 1024)
        deep = chain("up", var("x"), 300)
        deeper = put_in(deep, {"x": put_in(deep, {"x": put_in(chain("up", var("x"), 2000), {"x": var("y")})})})
        self.assertTrue(Same.same(deeper, chain("up", var("y"), 2600)))


if __name__ == "__main__":
    unittest.main()
