"""movedactors.meanings: meanings, values, and meanings that tell terms apart."""

import random
import unittest

from movedactors.errors import BadMeaning
from movedactors.meanings import Meaning, by_classes, unlike, value_of
from movedactors.terms import parts
from samples import anythings, chain, nested, of, var
from test_classes import NIL, W, X, Y, Z, chosen_term, pair, plain_classes, up

TABLES = {"nil": [((), 7)], "up": [((3,), 4), ((0,), 1), ((2,), 0)], "pair": [((1, 2), 5), ((1, 0), 6), ((0, 9), 1)]}


def parts_of(terms):
    found = []
    for term in terms:
        found.extend(part for part in parts(term) if part not in found)
    return found


class Meanings(unittest.TestCase):
    def test_apply(self):
        meaning = Meaning(TABLES)
        for name, things, result in (
            ("nil", (), 7), ("up", (3,), 4), ("up", (0,), 1), ("up", (2,), 0), ("pair", (1, 2), 5), ("pair", (2, 1), 0),
            ("up", (1,), 0), ("up", (3, 3), 0), ("up", (), 0), ("none", (), 0), ("none", (1, 2), 0), ("nil", (0,), 0),
        ):
            self.assertEqual(meaning.apply(name, things), result, (name, things))
        self.assertEqual(Meaning({}).apply("nil", ()), 0)

    def test_tables(self):
        meaning = Meaning({"up": [((3,), 4), ((20,), 2), ((0,), 1), ((2,), 0)], "none": [], "zero": [((), 0)],
                           "pair": [((1, 2), 5), ((1, 0), 6), ((0, 9), 1)]})
        self.assertEqual(meaning.tables(), {
            "up": [((0,), 1), ((3,), 4), ((20,), 2)], "pair": [((0, 9), 1), ((1, 0), 6), ((1, 2), 5)]})
        self.assertEqual(Meaning({}).tables(), {})
        self.assertEqual(Meaning(meaning.tables()), meaning)

    def test_told_tables_are_new(self):
        meaning = Meaning(TABLES)
        told = meaning.tables()
        told["up"].append(((9,), 9))
        told["more"] = []
        del told["nil"]
        self.assertEqual(meaning.tables(), Meaning(TABLES).tables())
        self.assertIsNot(meaning.tables()["up"], meaning.tables()["up"])

    def test_tables_that_were_passed_are_not_kept(self):
        tables = {"up": [((1,), 2)]}
        meaning = Meaning(tables)
        self.assertEqual(tables, {"up": [((1,), 2)]})
        tables["up"][0] = ((1,), 3)
        tables["nil"] = [((), 1)]
        self.assertEqual(meaning.tables(), {"up": [((1,), 2)]})
        self.assertEqual(Meaning({"up": (((1,), 2),), "nil": ()}), meaning)

    def test_right_tables(self):
        for tables in ({}, {"f": []}, {"f": ()}, {"self": [((), 10 ** 40)]}, {"why": [((10 ** 40, 0), 0)]}, TABLES,
                       {"f": [((0,), 0), ((1,), 0)], "g": [((0, 0), 0), ((0, 1), 0), ((1, 0), 0)]}):
            self.assertIsInstance(Meaning(tables), Meaning)

    def test_wrong_tables(self):
        wrongs = [
            [], (), "f", None, True, 0, [("f", [])], {"F": []}, {"": []}, {1: []}, {None: []}, {("f",): []}, {True: []},
            {"f": None}, {"f": "abc"}, {"f": {}}, {"f": {(): 1}}, {"f": 1}, {"f": [[(), 1]]}, {"f": [()]},
            {"f": [((),)]},
            {"f": [((), 1, 1)]}, {"f": [([], 1)]}, {"f": [([1], 1)]}, {"f": [(1, 1)]}, {"f": [((1, 2, 3), 1)]},
            {"f": [((True,), 1)]}, {"f": [((-1,), 1)]}, {"f": [(("1",), 1)]}, {"f": [((None, 1), 1)]},
            {"f": [((1, [2]), 1)]},
            {"f": [((1,), True)]}, {"f": [((1,), False)]}, {"f": [((1,), -1)]}, {"f": [((1,), None)]},
            {"f": [((1,), (1,))]},
            {"f": [((1,), 1), ((1, 2), 1)]}, {"f": [((), 1), ((1,), 1)]}, {"f": [((1,), 1), ((1,), 1)]},
            {"f": [((1,), 0), ((1,), 2)]}, {"f": [((), 1), ((), 1)]}, {"f": [((1, 2), 0), ((2, 1), 0), ((1, 2), 0)]},
            {"g": [((), 1)], "f": [7]}, {"abcdefghijklm": []}, {"f": [((1,), 0), ((1, 2), 0)]},
        ]
        for wrong in wrongs:
            with self.assertRaises(BadMeaning, msg=wrong):
                Meaning(wrong)
        for thing in anythings():
            for wrong in ({"f": [thing]}, {"f": [(thing, 1)]}, {"f": [((), thing)]}, {"f": [((thing,), 1)]}):
                with self.assertRaises(BadMeaning, msg=wrong):
                    Meaning(wrong)
            if thing != [] and thing != {}:
                with self.assertRaises(BadMeaning):
                    Meaning(thing)
                with self.assertRaises(BadMeaning):
                    Meaning({"f": thing})
        with self.assertRaises(BadMeaning):
            Meaning({"f": [((nested(57), 1), 1)]})

    def test_equality(self):
        self.assertIs(Meaning(TABLES) == Meaning(TABLES), True)
        self.assertIs(Meaning(TABLES) != Meaning(TABLES), False)
        self.assertIs(Meaning({"f": [((1,), 2), ((2,), 3)]}) == Meaning({"f": [((2,), 3), ((1,), 2), ((7,), 0)]}), True)
        self.assertIs(Meaning({"f": [((1, 2), 0)], "g": []}) == Meaning({"f": [((1,), 0)]}), True)
        self.assertIs(Meaning({"f": [((1,), 2)]}) == Meaning({"f": [((1,), 3)]}), False)
        self.assertIs(Meaning({"f": [((1,), 2)]}) == Meaning({"g": [((1,), 2)]}), False)
        self.assertIs(Meaning({"f": [((1,), 2)]}) == Meaning({}), False)
        self.assertIs(Meaning({"f": [((1,), 2)]}) != Meaning({}), True)
        for value in anythings() + [True, 0, (), Meaning(TABLES).tables()]:
            self.assertIs(Meaning(TABLES) == value, False)
        self.assertIs(Meaning({}) == {}, False)

    def test_value_of(self):
        meaning = Meaning(TABLES)
        values = {"x": 3, ("given", "z"): 0, "q": 9}
        self.assertEqual(value_of(meaning, X, values), 3)
        self.assertEqual(value_of(meaning, NIL, {}), 7)
        self.assertEqual(value_of(meaning, up(X), values), 4)
        self.assertEqual(value_of(meaning, pair(up(Z), Z), values), 6)
        self.assertEqual(value_of(meaning, pair(Z, up(Z)), values), 0)
        self.assertEqual(value_of(meaning, of("none", X), values), 0)
        self.assertEqual(value_of(Meaning({"up": [((k,), k + 1) for k in range(3000)]}), chain("up", Z, 2000),
            values), 2000)


class Unlike(unittest.TestCase):
    def check(self, terms, fixed, pairs=()):
        """What unlike or by_classes returns has the values that are told."""
        before = (list(terms), dict(fixed), list(pairs))
        meaning, values = by_classes(pairs, terms, fixed) if pairs else unlike(terms, fixed)
        self.assertEqual((list(terms), dict(fixed), list(pairs)), before)
        self.assertIsInstance(meaning, Meaning)
        found = parts_of(list(terms) + [term for told in pairs for term in told])
        self.assertEqual(list(values), [part[1] for part in found if part[0] == "var"] if not pairs else list(values))
        self.assertEqual(sorted(map(repr, values)), sorted(repr(part[1]) for part in found if part[0] == "var"))
        number = plain_classes(pairs, terms)
        class_of, thing_of = {}, {}
        kept = {number[repr(part)]: fixed[part[1]] for part in found if part[0] == "var" and part[1] in fixed}
        for part in found:
            thing, name = value_of(meaning, part, values), number[repr(part)]
            self.assertEqual(thing_of.setdefault(name, thing), thing)
            self.assertEqual(class_of.setdefault(thing, name), name)
            if name in kept:
                self.assertEqual(thing, kept[name])
            else:
                self.assertGreater(thing, 100)
                self.assertIsInstance(thing, int)
        self.assertEqual(by_classes(pairs, terms, fixed), (meaning, values))
        return meaning, values

    def test_no_terms(self):
        self.assertEqual(unlike([], {}), (Meaning({}), {}))
        self.assertEqual(unlike((), {"x": 5}), (Meaning({}), {}))
        self.assertEqual(by_classes([], [], {"x": 5}), (Meaning({}), {}))

    def test_plain_terms(self):
        self.check([X], {})
        self.check([X, X, X], {})
        self.check([pair(X, Y), pair(Y, X), pair(X, X), up(pair(X, Y)), NIL, up(NIL)], {})
        self.check((up(X), X, up(up(X)), of("down", X)), {})
        self.check([Z, W, pair(Z, W)], {})

    def test_fixed_things(self):
        meaning, values = self.check([pair(X, up(Y)), Y, NIL], {"x": 1, "y": 2, "q": 3})
        self.assertEqual(values, {"x": 1, "y": 2})
        _, values = self.check([pair(X, Y), up(X), up(Y), NIL, W], {"x": 101, "y": 103, ("self",): 102, "q": 104})
        self.assertEqual((values["x"], values["y"], values[("self",)]), (101, 103, 102))
        self.check([chain("up", X, 20)], {"x": 105})
        self.check([chain("up", X, 20), Y], {"y": 105})
        self.check([X, up(X)], {"x": 10 ** 40})

    def test_variables_with_the_names_of_primitives(self):
        _, values = self.check([up(var("up")), NIL, pair(var("nil"), NIL)], {"up": 5, "pair": 6, "nil": 7})
        self.assertEqual(values, {"up": 5, "nil": 7})
        self.check([up(X), NIL, pair(X, NIL)], {"up": 5, "pair": 6, "nil": 7})

    def test_classes(self):
        self.check([pair(X, Y)], {}, [(X, Y)])
        self.check([], {}, [(X, up(X))])
        _, values = self.check([up(up(X)), Z], {"x": 9}, [(X, up(X)), (Y, Z)])
        self.assertEqual((values["x"], values["y"] == values[("given", "z")]), (9, True))
        _, values = self.check([up(Y)], {"y": 101, "x": 50}, [(X, NIL), (Y, up(NIL))])
        self.assertEqual(values, {"x": 50, "y": 101})
        self.check([pair(up(X), W)], {("self",): 3}, [(W, pair(X, X)), (up(X), pair(W, W))])

    def test_chosen_terms(self):
        chosen = random.Random(7)
        for _ in range(120):
            terms = [chosen_term(chosen, 3) for _ in range(chosen.randrange(5))]
            fixed = {name: thing for name, thing in (("x", 101), ("q", 102), ("y", 7)) if chosen.randrange(2)}
            self.check(terms, fixed)
            pairs = [(chosen_term(chosen, 2), chosen_term(chosen, 2)) for _ in range(1 + chosen.randrange(3))]
            number = plain_classes(pairs, terms + [X, Y])
            if number[repr(X)] == number[repr(Y)]:
                fixed.pop("x", None)
            self.check(terms, fixed, pairs)

    def test_many_and_great_terms(self):
        terms = [chain("up", var(("v", k)), 40) for k in range(200)]
        meaning, values = unlike(terms, {("v", 7): 3, ("v", 8): 120})
        self.assertEqual(len(values), 200)
        things = [value_of(meaning, chain("up", var(("v", k)), n), values) for k in range(200) for n in range(41)]
        self.assertEqual(len(set(things)), 200 * 41)
        self.assertEqual((values[("v", 7)], values[("v", 8)]), (3, 120))
        wide = X
        for k in range(11):
            wide = pair(wide, up(wide)) if k % 2 else pair(wide, wide)
        meaning, values = unlike([wide, chain("up", X, 300)], {})
        self.assertGreater(value_of(meaning, wide, values), 100)
        self.assertNotEqual(value_of(meaning, wide, values), value_of(meaning, chain("up", X, 300), values))


if __name__ == "__main__":
    unittest.main()
