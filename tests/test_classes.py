"""movedactors.classes: classes of terms, and derivations."""

import random
import unittest

from movedactors.classes import Classes
from movedactors.terms import part_at, size
from samples import Same, anythings, chain, nested, of, var

PRIMITIVES = [("nil", 0), ("up", 1), ("down", 1), ("pair", 2)]
X, Y, Z, W = var("x"), var("y"), var(("given", "z")), var(("self",))
NIL = of("nil")


def up(term):
    return of("up", term)


def pair(one, other):
    return of("pair", one, other)


def parts_of(term):
    found = [term]
    if term[0] == "of":
        for member in term[2]:
            found.extend(parts_of(member))
    return found


def plain_classes(pairs, terms):
    """A table of a number for the class of each part, by going through all pairs of parts until nothing changes."""
    parts = []
    for term in [member for told in pairs for member in told] + list(terms):
        parts.extend(part for part in parts_of(term) if part not in parts)
    number = {repr(part): k for k, part in enumerate(parts)}

    def join(one, other):
        old, new = number[repr(one)], number[repr(other)]
        for name in number:
            if number[name] == old:
                number[name] = new
        return old != new

    for one, other in pairs:
        join(one, other)
    changed = True
    while changed:
        changed = False
        for one in parts:
            for other in parts:
                if one[0] == other[0] == "of" and one[1] == other[1]:
                    if all(number[repr(a)] == number[repr(b)] for a, b in zip(one[2], other[2])):
                        changed = join(one, other) or changed
    return number


def chosen_term(chosen, deep):
    what = chosen.randrange(7)
    if what < 3 or deep == 0:
        return chosen.choice((X, Y, Z, W, NIL))
    if what < 5:
        return of(chosen.choice(("up", "down")), chosen_term(chosen, deep - 1))
    return pair(chosen_term(chosen, deep - 1), chosen_term(chosen, deep - 1))


class ClassesOfTerms(unittest.TestCase):
    def check_derivation(self, classes, pairs, one, other):
        rows = classes.derivation(one, other)
        self.assertIsInstance(rows, tuple)
        terms = [one, other] + [member for told in pairs for member in told]
        self.assertLessEqual(len(rows), sum(size(term) for term in terms))
        parts = [part for term in terms for part in parts_of(term)]
        self.assertLess(len(rows), len(set(map(repr, parts))))
        for row in rows:
            self.assertIsInstance(row, tuple)
            if row[0] == "parts":
                self.assertIn(row[1], parts)
                self.assertIn(row[2], parts)
        self.assertIsNone(classes.first_wrong(rows, one, other))
        self.assertEqual(classes.derivation(one, other), rows)

    def test_no_pairs(self):
        for pairs in ([], ()):
            classes = Classes(PRIMITIVES, pairs)
            self.assertIs(classes.is_same(X, X), True)
            self.assertIs(classes.is_same(X, Y), False)
            self.assertIs(classes.is_same(up(X), up(Y)), False)
            self.assertIs(classes.is_same(pair(X, NIL), pair(X, NIL)), True)
            self.assertIsNone(classes.derivation(X, Y))
            self.check_derivation(classes, pairs, NIL, NIL)

    def test_chains_and_parts(self):
        pairs = [(X, Y), (Y, up(X)), (Z, NIL)]
        classes = Classes(tuple(PRIMITIVES), tuple(pairs))
        same = [(X, up(X)), (X, up(up(up(Y)))), (pair(X, Z), pair(up(Y), NIL)), (up(Z), up(NIL)), (NIL, Z)]
        for one, other in same:
            self.assertIs(classes.is_same(one, other), True)
            self.assertIs(classes.is_same(other, one), True)
            self.check_derivation(classes, pairs, one, other)
            self.check_derivation(classes, pairs, other, one)
        for one, other in [(X, Z), (pair(X, Z), pair(Z, X)), (up(NIL), NIL), (up(X), of("down", X)), (W, X), (W, Z)]:
            self.assertIs(classes.is_same(one, other), False)
            self.assertIsNone(classes.derivation(one, other))

    def test_rows_that_join_nothing_are_not_told(self):
        classes = Classes(PRIMITIVES, [(X, X), (X, Y), (Y, X), (up(X), up(Y))])
        self.assertEqual(sorted(classes.derivation(X, Y), key=repr)[1:], [("told", 1)])
        self.assertEqual(len(classes.derivation(X, Y)), 2)

    def test_members_do_not_follow_from_wholes(self):
        classes = Classes(PRIMITIVES, [(up(X), up(Y)), (pair(X, Z), pair(Y, Z))])
        self.assertIs(classes.is_same(X, Y), False)
        self.assertIs(classes.is_same(up(up(X)), up(up(Y))), True)

    def test_answers_do_not_depend_on_earlier_questions(self):
        pairs = [(X, up(X))]
        classes = Classes(PRIMITIVES, pairs)
        first = classes.derivation(X, up(up(X)))
        self.assertIs(classes.is_same(pair(X, up(up(up(X)))), pair(up(X), X)), True)
        self.assertIs(classes.is_same(up(Y), up(Z)), False)
        self.assertEqual(classes.derivation(X, up(up(X))), first)
        self.check_derivation(classes, pairs, X, up(up(X)))

    def test_lists_that_were_passed_are_not_kept(self):
        primitives, pairs = list(PRIMITIVES), [(X, Y)]
        classes = Classes(primitives, pairs)
        primitives.clear()
        pairs[0] = (X, Z)
        self.assertIs(classes.is_same(X, Y), True)
        self.assertIsNone(classes.first_wrong((("told", 0), ("parts", up(X), up(Y))), up(X), up(Y)))
        self.assertEqual(classes.derivation(X, Y), (("told", 0),))

    def test_against_all_pairs_of_parts(self):
        chosen = random.Random(6)
        told = {True: 0, False: 0}
        for _ in range(150):
            pairs = [(chosen_term(chosen, 2), chosen_term(chosen, 2)) for _ in range(chosen.randrange(5))]
            terms = [chosen_term(chosen, 3) for _ in range(4)]
            number = plain_classes(pairs, terms)
            classes = Classes(PRIMITIVES, pairs)
            for one in terms:
                for other in terms:
                    is_same = number[repr(one)] == number[repr(other)]
                    told[is_same] += 1
                    self.assertIs(classes.is_same(one, other), is_same)
                    if is_same:
                        self.check_derivation(classes, pairs, one, other)
                    else:
                        self.assertIsNone(classes.derivation(one, other))
        self.assertGreater(min(told.values()), 500)

    def test_wholes_of_pairs_that_follow_late(self):
        """Parts of the pairs are joined whenever their members are, however often their classes have been joined."""
        left, right = var("left"), var("right")
        told = [(up(X), left), (of("down", Y), W), (up(Z), right), (of("down", Z), NIL), (pair(Z, Z), NIL), (X, Y),
            (Y, Z)]
        for pairs in (told, told[::-1], told[3:] + told[:3], told[5:] + told[:5]):
            classes = Classes(PRIMITIVES, pairs)
            self.assertIs(classes.is_same(left, right), True)
            self.assertIs(classes.is_same(W, NIL), True)
            self.assertIs(classes.is_same(left, W), False)
            self.check_derivation(classes, pairs, left, right)

    def test_many_pairs_against_all_pairs_of_parts(self):
        chosen = random.Random(9)
        for _ in range(60):
            pairs = [(chosen_term(chosen, 1), var(("v", chosen.randrange(8)))) for _ in range(8)]
            pairs += [(var(("v", chosen.randrange(8))), of("up", var(("v", chosen.randrange(8))))) for _ in range(4)]
            number = plain_classes(pairs, [])
            classes = Classes(PRIMITIVES, pairs)
            terms = [part for pair in pairs for part in pair]
            for one in terms[::3]:
                for other in terms[1::3]:
                    self.assertIs(classes.is_same(one, other), number[repr(one)] == number[repr(other)])

    def test_variables_with_the_names_of_primitives(self):
        classes = Classes(PRIMITIVES, [(X, Y)])
        self.assertIs(classes.is_same(var("nil"), NIL), False)
        self.assertIs(classes.is_same(up(var("up")), up(up(X))), False)
        for row in (("parts", var("up"), up(X)), ("parts", up(X), var("up")), ("parts", var("nil"), NIL)):
            self.assertEqual(classes.first_wrong((row,), X, X), 0)

    def test_great_terms(self):
        one, other = X, Y
        for _ in range(11):
            one, other = pair(one, one), pair(other, other)
        classes = Classes(PRIMITIVES, [(X, Y), (chain("up", X, 300), X)])
        self.assertIs(classes.is_same(one, other), True)
        self.check_derivation_size(classes, one, other)
        self.assertIs(classes.is_same(chain("up", Y, 300), X), True)
        self.assertIs(classes.is_same(chain("up", Y, 299), X), False)
        self.check_derivation_size(classes, chain("up", Y, 300), chain("up", X, 600))
        self.assertIs(classes.is_same(chain("up", Y, 3000), chain("up", X, 300)), True)

    def check_derivation_size(self, classes, one, other):
        rows = classes.derivation(one, other)
        self.assertLessEqual(len(rows), size(one) + size(other) + 304)
        self.assertIsNone(classes.first_wrong(rows, one, other))

    def test_many_pairs(self):
        names = [var(("v", k)) for k in range(60)]
        pairs = [(names[k], up(names[k + 1])) for k in range(59)] + [(names[59], names[0])]
        classes = Classes(PRIMITIVES, pairs)
        self.assertIs(classes.is_same(names[0], chain("up", names[0], 59)), True)
        self.assertIs(classes.is_same(names[0], chain("up", names[0], 58)), False)
        self.check_derivation(classes, pairs, chain("up", names[7], 60), up(names[7]))


class FirstWrong(unittest.TestCase):
    PAIRS = [(X, Y), (Y, up(X)), (Z, NIL)]

    def wrong(self, rows, one=X, other=up(X)):
        return Classes(PRIMITIVES, self.PAIRS).first_wrong(rows, one, other)

    def test_right_rows(self):
        self.assertIsNone(self.wrong((("told", 0), ("told", 1))))
        self.assertIsNone(self.wrong((("told", 1), ("told", 0))))
        self.assertIsNone(self.wrong((("told", 0), ("told", 0), ("told", 2), ("told", 1))))
        self.assertIsNone(self.wrong((), X, X))
        self.assertIsNone(self.wrong((("told", 2),), up(W), up(W)))
        self.assertIsNone(self.wrong((("told", 2), ("parts", up(Z), up(NIL))), up(NIL), up(Z)))
        self.assertIsNone(self.wrong((("parts", NIL, NIL), ("parts", up(W), up(W))), W, W))
        self.assertIsNone(self.wrong((("told", 0), ("told", 2), ("parts", pair(X, NIL), pair(Y, Z))), pair(Y, Z),
            pair(X, NIL)))
        both = (("told", 0), ("parts", up(X), up(Y)), ("parts", up(up(X)), up(up(Y))))
        self.assertIsNone(self.wrong(both, up(up(X)), up(up(Y))))

    def test_rows_that_show_nothing(self):
        for rows in ((), (("told", 0),), (("told", 2), ("told", 0)), (("told", 0), ("parts", up(X), up(Y)))):
            self.assertEqual(self.wrong(rows), len(rows))
        self.assertEqual(self.wrong((("told", 0), ("told", 1)), up(X), up(up(X))), 2)
        self.assertEqual(self.wrong((("told", 0), ("told", 1)), pair(X, X), pair(Y, X)), 2)

    def test_wrong_rows(self):
        wrongs = [
            ("told", 3), ("told", -1), ("told", True), ("told", False), ("told",), ("told", 0, 0), ("told", "0"),
            ("told", None),
            ("told", (0,)), ["told", 0], ("tell", 0), (), "told", ("parts", up(X)), ("parts", up(X), up(Y), 0),
            ("parts", X, X), ("parts", X, Y), ("parts", up(X), of("down", X)), ("parts", up(X), up(Z)),
            ("parts", pair(X, X), pair(X, Z)), ("parts", pair(X, X), up(X)), ("parts", up(W), X), ("parts", W, up(W)),
            ("parts", of("none"), of("none")), ("parts", of("up"), of("up")), ("parts", ["of", "nil", ()], NIL),
            ("parts", NIL, ["of", "nil", ()]), ("parts", ("of", "nil", []), NIL), ("parts", up(var("X")), up(var("X"))),
            ["parts", NIL, NIL], ("part", NIL, NIL), ("parts", NIL), (0, 0), (("told", 0),), ("parts", up(0), up(0)),
        ]
        for wrong in wrongs:
            self.assertEqual(self.wrong((wrong,)), 0, wrong)
            self.assertEqual(self.wrong((("told", 0), ("told", 1), wrong)), 2, wrong)
            self.assertEqual(self.wrong((("told", 0), wrong, 7), X, X), 1, wrong)
        for thing in anythings():
            for wrong in (thing, ("told", thing), (thing, 0), ("parts", thing, NIL), ("parts", NIL, thing),
                          ("parts", up(thing), up(thing))):
                self.assertEqual(self.wrong((("told", 0), wrong)), 1)

    def test_parts_that_are_joined_too_late(self):
        self.assertEqual(self.wrong((("parts", up(X), up(Y)), ("told", 0)), up(X), up(Y)), 0)
        self.assertEqual(self.wrong((("told", 2), ("parts", up(up(X)), up(up(Y))), ("told", 0)), X, Y), 1)
        self.assertEqual(self.wrong((("told", 0), ("parts", up(up(X)), up(up(Y)))), X, Y), 1)

    def test_classes_do_not_help(self):
        """Rows alone join terms, also where they are of one class."""
        self.assertEqual(self.wrong((("told", 0),), up(X), up(Y)), 1)

    def test_no_tuple(self):
        for rows in anythings() + [[("told", 0), ("told", 1)], True, 0, "told", nested(59)]:
            self.assertEqual(self.wrong(rows), 0)
            self.assertEqual(self.wrong(rows, X, X), 0)

    def test_deep_terms(self):
        deep = chain("up", X, 300)
        self.assertTrue(Same.same(part_at(deep, (0,) * 300), X))
        self.assertIsNone(self.wrong((("told", 0), ("parts", deep, deep)), deep, deep))
        self.assertEqual(self.wrong((("told", 0), ("parts", up(deep), chain("up", Y, 301))), deep, deep), 1)


if __name__ == "__main__":
    unittest.main()
