"""movedactors.solved: equations, what follows from them, and their solved form."""

import random
import unittest

from movedactors.solved import Solved
from movedactors.terms import depth, put_in, size, variables
from samples import Same, anythings, chain, of, var

REGISTERS = (("old", "a"), ("old", "b"), ("new", "c"), "d")
CONSTANTS = (("self",), "k")
FREE = (("field", "x"), "y")
A, B, C, D = [var(name) for name in REGISTERS]
SELF, K = [var(name) for name in CONSTANTS]
X, Y = [var(name) for name in FREE]


def up(term):
    return of("up", term)


def pair(one, other):
    return of("pair", one, other)


NIL = of("nil")


class Plain:
    """The same by the words of S2.4: equations one after another, each pair put in everywhere."""

    def __init__(self):
        self.table = {}

    def made_equal(self, one, other):
        if put_in(one, self.table) == put_in(other, self.table):
            return "had"
        table = dict(self.table)
        todo = [(one, other)]
        while todo:
            one, other = [put_in(term, table) for term in todo.pop()]
            if one == other:
                continue
            if one[0] == other[0] == "of" and one[1] == other[1]:
                todo.extend(zip(one[2], other[2]))
                continue
            places = [REGISTERS.index(term[1]) if term[0] == "var" and term[1] in REGISTERS else -1
                      for term in (one, other)]
            register, term = (one, other) if places[0] > places[1] else (other, one)
            names = variables(term)
            if max(places) < 0 or register[1] in names or set(names) & set(FREE):
                return "never"
            table = {name: put_in(whole, {register[1]: term}) for name, whole in table.items()}
            table[register[1]] = term
        self.table = table
        return "new"

    def equations(self):
        return [(name, self.table[name]) for name in REGISTERS if name in self.table]


def chosen_term(chosen, deep):
    what = chosen.randrange(10)
    if what < 5 or deep == 0:
        return var(chosen.choice(REGISTERS))
    if what == 5:
        return var(chosen.choice(CONSTANTS + FREE[:chosen.randrange(3)]))
    if what == 6:
        return NIL
    if what == 7:
        return up(chosen_term(chosen, deep - 1))
    return pair(chosen_term(chosen, deep - 1), chosen_term(chosen, deep - 1))


class SolvedForms(unittest.TestCase):
    def made(self, *equations):
        solved = Solved(REGISTERS, CONSTANTS)
        for one, other in equations:
            self.assertEqual(solved.made_equal(one, other), "new")
        return solved

    def test_nothing_yet(self):
        solved = self.made()
        self.assertEqual(solved.equations(), [])
        self.assertIs(solved.holds(A, A), True)
        self.assertIs(solved.holds(A, B), False)
        self.assertEqual(solved.normal(pair(A, X)), pair(A, X))

    def test_answers(self):
        solved = self.made((A, up(SELF)))
        self.assertEqual(solved.made_equal(up(SELF), A), "had")
        self.assertEqual(solved.made_equal(pair(A, X), pair(up(SELF), X)), "had")
        self.assertEqual(solved.made_equal(A, up(K)), "never")
        self.assertEqual(solved.made_equal(A, up(B)), "new")
        self.assertEqual(solved.equations(), [(REGISTERS[0], up(SELF)), (REGISTERS[1], SELF)])

    def test_free_variables_and_constants(self):
        for one, other in ((A, X), (X, A), (A, up(X)), (X, Y), (X, NIL), (SELF, K), (SELF, NIL), (K, up(A)), (X, SELF),
                           (up(A), pair(A, A)), (NIL, up(A)), (pair(A, B), pair(SELF, up(X))), (up(X), up(Y))):
            for left, right in ((one, other), (other, one)):
                solved = self.made()
                self.assertEqual(solved.made_equal(left, right), "never", (left, right))
                self.assertEqual(solved.equations(), [])
        for term in (X, up(X), SELF, NIL, A):
            self.assertEqual(self.made().made_equal(term, term), "had")
        self.assertEqual(self.made((A, SELF)).equations(), [(REGISTERS[0], SELF)])

    def test_variables_with_the_names_of_primitives(self):
        for constants in ((), ("nil", "up")):
            for one, other in ((var("nil"), NIL), (var("up"), up(NIL)), (var("up"), up(var("up")))):
                self.assertEqual(Solved(["a", "pair"], constants).made_equal(one, other), "never")
                self.assertEqual(Solved(["a", "pair"], constants).made_equal(other, one), "never")
        solved = Solved(["a", "pair"], ["up"])
        self.assertEqual(solved.made_equal(var("pair"), pair(var("up"), var("a"))), "new")
        self.assertEqual(solved.equations(), [("pair", pair(var("up"), var("a")))])

    def test_a_free_variable_that_comes_later(self):
        solved = self.made((A, up(B)))
        self.assertEqual(solved.made_equal(B, X), "never")
        self.assertEqual(solved.made_equal(A, up(X)), "never")
        solved = self.made((A, pair(B, C)), (C, up(D)))
        self.assertEqual(solved.made_equal(D, pair(NIL, X)), "never")
        self.assertEqual(solved.equations(), [(REGISTERS[0], pair(B, up(D))), (REGISTERS[2], up(D))])

    def test_a_register_in_itself(self):
        self.assertEqual(self.made().made_equal(A, up(A)), "never")
        solved = self.made((A, up(B)), (B, up(C)))
        for one, other in ((C, A), (C, up(A)), (C, B), (C, up(C)), (B, A)):
            self.assertEqual(solved.made_equal(one, other), "never")
        self.assertEqual(self.made().made_equal(pair(A, B), pair(up(B), up(A))), "never")

    def test_never_adds_nothing(self):
        solved = self.made((A, up(B)))
        twin = solved.twin()
        self.assertEqual(solved.made_equal(pair(C, pair(B, D)), pair(D, pair(NIL, up(C)))), "never")
        self.assertEqual(solved, twin)
        self.assertIs(solved.holds(B, NIL), False)
        self.assertIs(solved.holds(C, D), False)
        self.assertEqual(solved.made_equal(C, D), "new")

    def test_two_registers(self):
        for one, other in ((A, B), (B, A)):
            self.assertEqual(self.made((one, other)).equations(), [(REGISTERS[1], A)])
        self.assertEqual(self.made((C, D), (D, B)).equations(), [(REGISTERS[2], B), (REGISTERS[3], B)])
        self.assertEqual(self.made((D, C), (B, C), (A, D)).equations(), [(name, A) for name in REGISTERS[1:]])
        self.assertEqual(self.made((C, D), (D, up(A))).equations(), [(REGISTERS[2], up(A)), (REGISTERS[3], up(A))])

    def test_order_of_the_registers(self):
        solved = self.made((D, NIL), (A, up(D)), (C, pair(B, A)))
        self.assertEqual(solved.equations(), [
            (REGISTERS[0], up(NIL)), (REGISTERS[2], pair(B, up(NIL))), (REGISTERS[3], NIL)])
        self.assertEqual(solved.normal(pair(C, pair(D, X))), pair(pair(B, up(NIL)), pair(NIL, X)))

    def test_exactly_one_form(self):
        """The equations of a list in any order give the same form."""
        chosen = random.Random(4)
        for _ in range(60):
            solved = Solved(REGISTERS, CONSTANTS)
            right = []
            for _ in range(4):
                equation = (chosen_term(chosen, 3), chosen_term(chosen, 3))
                if solved.made_equal(*equation) != "never":
                    right.append(equation)
            chosen.shuffle(right)
            other = Solved(list(REGISTERS), list(CONSTANTS))
            for one, two in right:
                self.assertNotEqual(other.made_equal(two, one), "never")
            self.assertEqual(other.equations(), solved.equations())
            self.assertIs(other == solved, True)

    def test_against_the_words_of_the_document(self):
        chosen = random.Random(5)
        told = {"had": 0, "new": 0, "never": 0}
        for _ in range(600):
            solved, plain = Solved(REGISTERS, CONSTANTS), Plain()
            for _ in range(6):
                one, other = chosen_term(chosen, 3), chosen_term(chosen, 3)
                self.assertIs(solved.holds(one, other), put_in(one, plain.table) == put_in(other, plain.table))
                answer = solved.made_equal(one, other)
                told[answer] += 1
                self.assertEqual(answer, plain.made_equal(one, other))
                self.assertEqual(solved.equations(), plain.equations())
                self.assertEqual(solved.normal(one), put_in(one, plain.table))
                self.assertIs(solved.holds(one, other), answer != "never")
        self.assertGreater(min(told.values()), 100)

    def test_told_lists_are_new(self):
        solved = self.made((A, NIL))
        told = solved.equations()
        told.append(7)
        told[0] = None
        self.assertEqual(solved.equations(), [(REGISTERS[0], NIL)])
        self.assertIsInstance(solved.equations()[0], tuple)

    def test_lists_that_were_passed_are_not_kept(self):
        registers, constants = list(REGISTERS), list(CONSTANTS)
        solved = Solved(registers, constants)
        solved.made_equal(A, B)
        registers.clear()
        constants.append("d")
        self.assertEqual(solved, self.made((A, B)))
        self.assertEqual(solved.made_equal(D, K), "new")

    def test_twin(self):
        solved = self.made((A, up(B)), (C, SELF))
        twin = solved.twin()
        self.assertIs(twin == solved, True)
        self.assertEqual(twin.made_equal(B, NIL), "new")
        self.assertEqual(solved.equations(), [(REGISTERS[0], up(B)), (REGISTERS[2], SELF)])
        self.assertIs(twin == solved, False)
        self.assertEqual(solved.made_equal(B, K), "new")
        self.assertEqual(twin.equations(), [(REGISTERS[0], up(NIL)), (REGISTERS[1], NIL), (REGISTERS[2], SELF)])
        self.assertEqual(twin.made_equal(D, X), "never")

    def test_equality(self):
        self.assertIs(self.made() == self.made(), True)
        self.assertIs(self.made() != self.made(), False)
        self.assertIs(self.made((A, B), (B, C)) == self.made((C, A), (C, B)), True)
        self.assertIs(self.made((A, B)) == self.made((A, C)), False)
        self.assertIs(self.made((A, B)) == self.made(), False)
        self.assertIs(self.made() == Solved(REGISTERS[:3], CONSTANTS), False)
        self.assertIs(self.made() == Solved(REGISTERS[::-1], CONSTANTS), False)
        self.assertIs(self.made() == Solved(REGISTERS, CONSTANTS[::-1]), False)
        self.assertIs(self.made() == Solved(REGISTERS, ()), False)
        self.assertIs(Solved(["d"], []) == Solved([("d",)], []), False)
        self.assertIs(Solved([("d",)], []) == Solved(["d"], []), False)
        for value in anythings() + [[], (), True, 0]:
            self.assertIs(self.made() == value, False)

    def test_great_terms(self):
        solved = self.made((A, chain("up", B, 100)), (B, chain("up", C, 100)), (C, chain("up", SELF, 100)))
        self.assertTrue(Same.same(solved.normal(A), chain("up", SELF, 300)))
        self.assertIs(solved.holds(A, chain("up", C, 200)), True)
        self.assertIs(solved.holds(A, chain("up", C, 199)), False)
        wide = D
        for _ in range(11):
            wide = pair(wide, wide)
        solved = self.made((A, wide), (D, B))
        self.assertEqual(size(solved.normal(A)), 4095)
        self.assertEqual(solved.made_equal(B, A), "never")
        self.assertEqual(solved.made_equal(C, up(A)), "new")
        self.assertEqual(depth(solved.normal(C)), 12)

    def test_equations_whose_normal_terms_would_be_vast(self):
        """They cannot hold; what the terms would become by then is never written out."""
        names = [f"r{k}" for k in range(12)]
        left = right = NIL
        for k in range(11):
            wide = var(names[k + 1])
            for _ in range(6):
                wide = pair(wide, wide)
            left, right = pair(var(names[k]), left), pair(wide, right)
        solved = Solved(names, [])
        self.assertEqual(solved.made_equal(pair(NIL, left), pair(up(NIL), right)), "never")
        self.assertEqual(solved.made_equal(pair(left, NIL), pair(right, up(NIL))), "never")
        self.assertEqual(solved.made_equal(pair(left, var(names[11])), pair(right, var(names[0]))), "never")
        self.assertEqual(solved.equations(), [])

    def test_deeper_than_calls_may_be(self):
        solved = self.made((A, chain("up", B, 3000)))
        self.assertEqual(solved.made_equal(chain("up", A, 10), chain("up", B, 3010)), "had")
        self.assertIs(solved == self.made((A, chain("up", B, 3000))), True)
        self.assertEqual(solved.made_equal(A, chain("up", B, 2999)), "never")


if __name__ == "__main__":
    unittest.main()
