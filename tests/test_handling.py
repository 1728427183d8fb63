"""movedactors.handling: deeds by terms and by things, stands and states."""

import random
import unittest

from movedactors.controls import controls, starts
from movedactors.edges import arrows, edge
from movedactors.errors import BadControl, BadWords, NotNow, UnknownName
from movedactors.handling import (
    count_makes, first_stand, first_state, next_stand, next_state, put_edge, value_edge,
)
from movedactors.meanings import Meaning, value_of
from movedactors.terms import variables
from movedactors.walks import valued
from samples import SELF, anythings, chain, field, given, new_edition, of, old_edition, reg, var
from test_controls import NO_CONTROLS
from test_edges import IDLE, PUT_EDGE

MEANING = Meaning({
    "nil": [((), 3)], "up": [((k,), k + 50) for k in range(40)],
    "pair": [((k, j), 1000 + 100 * k + j) for k in range(60) for j in range(60)],
})
TABLE = {
    ("register", "x"): of("up", var("p")), ("register", "z"): var(("given", "z")), ("field", "a"): of("nil"),
    ("field", "b"): var("b"), ("self",): var("me"), ("child", "k"): var(("child", 0, "k")),
    ("child", "m"): of("up", var("m")),
}
PUT_DEEDS = (
    ((var(("child", 0, "k")), "cell", ("blue",), (of("pair", of("up", var("p")), of("up", var("m"))),)),
     (of("up", var("m")), "kid", (), ())),
    (var(("child", 0, "k")), of("up", of("nil"))),
    (var("me"),),
    ((var(("child", 0, "k")), "put", ("red", "closed"), (of("up", var("p")), of("up", var("m")))),
     (of("nil"), "ask", (), (of("up", var("b")),))),
    ("go", "idle", ("green",), (of("up", var("p")), of("pair", var(("given", "z")), var(("child", 0, "k"))))),
)
THINGS = {
    ("register", "x"): 1, ("register", "z"): 2, ("field", "a"): 4, ("field", "b"): 5, ("self",): 6,
    ("child", "k"): 7, ("child", "m"): 8,
}
PUT_THINGS = (
    ((7, "cell", ("blue",), (1108,)), (8, "kid", (), ())),
    (7, 54),
    (6,),
    ((7, "put", ("red", "closed"), (1, 8)), (3, "ask", (), (55,))),
    ("go", "idle", ("green",), (1, 1207)),
)


def all_variables(carried):
    makes, links, watches, sends, end = carried
    terms = [term for make in makes for term in make[3]] + list(links) + list(watches)
    terms += [send[0] for send in sends] + [term for send in sends for term in send[3]]
    terms += list(end[3]) if end[0] == "go" else []
    found = [variable for term in terms for variable in variables(term)]
    return found + [("child", make[0]) for make in makes]


class Deeds(unittest.TestCase):
    def test_by_terms(self):
        self.assertEqual(put_edge(PUT_EDGE, TABLE), PUT_DEEDS)

    def test_by_things(self):
        self.assertEqual(value_edge(MEANING, PUT_EDGE, THINGS), PUT_THINGS)

    def test_ends(self):
        stop = ((), (), (), (), ("stop",))
        fail = ((("k", "kid", (), ()),), (), (), ((var(("field", "a")), "tick", (), ()),), ("fail", "worse"))
        for told, terms, things in (
            (stop, stop, stop),
            (fail, (((TABLE[("child", "k")], "kid", (), ()),), (), (), ((of("nil"), "tick", (), ()),), fail[4]),
             (((7, "kid", (), ()),), (), (), ((4, "tick", (), ()),), fail[4])),
        ):
            self.assertEqual(put_edge(told, TABLE), terms)
            self.assertEqual(value_edge(MEANING, told, THINGS), things)
            self.assertEqual(put_edge(told, {**TABLE, ("register", "q"): var("q"), "a": var("a")}), terms)

    def test_more_keys_than_needed(self):
        more = {**TABLE, ("child", "x"): of("nil"), ("field", "x"): of("nil"), ("register", "k"): of("nil"),
                "x": of("nil"), ("given", "z"): of("nil"), "self": of("nil"), "m": of("nil"), "p": of("nil")}
        self.assertEqual(put_edge(PUT_EDGE, more), PUT_DEEDS)
        things = {**THINGS, ("child", "x"): 30, ("field", "x"): 31, ("register", "k"): 32, "x": 33, "self": 34}
        self.assertEqual(value_edge(MEANING, PUT_EDGE, things), PUT_THINGS)
        self.assertEqual(len(more), 15)

    def test_one_name_of_three_sorts(self):
        """A child, a register and a field of one name are told apart."""
        n = [var((sort, "n")) for sort in ("register", "field", "child")]
        told = ((("n", "kid", (), ()),), tuple(n), (n[1],), ((n[2], "put", (), (n[0], n[1])),),
                ("go", "idle", (), (n[2], n[0])))
        table = {("register", "n"): var("r"), ("field", "n"): var("f"), ("child", "n"): var("c"), ("self",): var("s")}
        r, f, c = var("r"), var("f"), var("c")
        self.assertEqual(put_edge(told, table), (
            ((c, "kid", (), ()),), (r, f, c), (f,), ((c, "put", (), (r, f)),), ("go", "idle", (), (c, r))))
        things = {("register", "n"): 1, ("field", "n"): 2, ("child", "n"): 3, ("self",): 4}
        self.assertEqual(value_edge(MEANING, told, things), (
            ((3, "kid", (), ()),), (1, 2, 3), (2,), ((3, "put", (), (1, 2)),), ("go", "idle", (), (3, 1))))

    def test_put_in_at_once(self):
        told = ((), (reg("x"), reg("z")), (), (), ("stop",))
        table = {("register", "x"): reg("z"), ("register", "z"): reg("x"), ("self",): SELF}
        self.assertEqual(put_edge(told, table)[1], (reg("z"), reg("x")))
        deep = chain("up", var("q"), 290)
        self.assertEqual(put_edge(told, {**table, ("register", "x"): deep})[1][0][1], "up")

    def test_count_makes(self):
        self.assertEqual(count_makes(PUT_EDGE), 2)
        self.assertEqual(count_makes(((), (), (), (), ("stop",))), 0)

    def test_agreement(self):
        """Deeds by things are the deeds by terms when each variable stands for its thing."""
        chosen = random.Random(3)
        for edition, role in ((old_edition(), "cell"), (new_edition(), "unit")):
            for _, _, _, told in arrows(edition, role):
                names = list(dict.fromkeys(all_variables(told) + [("self",)]))
                things = {variable: chosen.randrange(40) for variable in names}
                terms = {variable: var(("v", k)) for k, variable in enumerate(names)}
                values = {("v", k): things[variable] for k, variable in enumerate(names)}
                self.assertEqual(value_edge(MEANING, told, things), valued(MEANING, put_edge(told, terms), values))


class Beginnings(unittest.TestCase):
    def test_first_stand(self):
        edition = old_edition()
        term, own = of("pair", var("a"), of("nil")), of("up", var("me"))
        for words, terms in ((("red",), (term,)), (["red"], [term])):
            self.assertEqual(first_stand(edition, "cell", words, terms, own), (IDLE[:2] + (("red",),),
                (term, of("up", term))))
        self.assertEqual(first_stand(edition, "cell", ("blue",), (term,), own), (("cell", "busy", ()),
            (of("pair", own, term),)))
        self.assertEqual(first_stand(edition, "kid", (), (), own), (("kid", "only", ()), ()))
        self.assertEqual(first_stand(edition, "cell", ("blue",), (SELF,), given("i"))[1], (of("pair", given("i"),
            SELF),))

    def test_first_state(self):
        edition = old_edition()
        for words, things in ((("red",), (9,)), (["red"], [9])):
            self.assertEqual(first_state(MEANING, edition, "cell", words, things, 4), (("cell", "idle", ("red",)),
                (9, 59)))
        self.assertEqual(first_state(MEANING, edition, "cell", ("green",), (9,), 4), (("cell", "busy", ()), (1409,)))
        self.assertEqual(first_state(MEANING, edition, "kid", [], [], 4), (("kid", "only", ()), ()))
        self.assertEqual(first_state(Meaning({}), edition, "cell", ("green",), (9,), 4)[1], (0,))

    def test_errors(self):
        edition = old_edition()
        asks = (
            lambda role, words: first_stand(edition, role, words, 7, 7),
            lambda role, words: first_state(MEANING, edition, role, words, 7, 7),
        )
        for ask in asks:
            for role in anythings() + ["none", "idle", "unit", True, 0]:
                with self.assertRaises(UnknownName) as caught:
                    ask(role, 7)
                self.assertIs(caught.exception.name, role)
            for words in anythings() + [("big",), ("red", "red"), (), True, {"red": 1}, [["red"]]]:
                with self.assertRaises(BadWords):
                    ask("cell", words)


class Steps(unittest.TestCase):
    def test_next_stand(self):
        edition = old_edition()
        stand = (IDLE, (of("up", var("p")), var(("given", "z"))))
        children = [var(("child", 0, "k")), of("up", var("m")), var("more")]
        for kids, words, fields in ((children, ("red", "closed"), (of("nil"), var("b"))),
                                    (tuple(children), ["red", "closed"], [of("nil"), var("b")])):
            told = next_stand(edition, stand, "put", words, fields, kids, var("me"))
            self.assertEqual(told, ((("cell", "idle", ("green",)), PUT_DEEDS[4][3]), PUT_DEEDS))
        self.assertEqual(len(children), 3)

    def test_next_state(self):
        edition = old_edition()
        for children, words, fields in (([7, 8, 9], ("red", "closed"), (4, 5)), ((7, 8), ["red", "closed"], [4, 5])):
            told = next_state(MEANING, edition, (IDLE, (1, 2)), "put", words, fields, children, 6)
            self.assertEqual(told, ((("cell", "idle", ("green",)), (1, 1207)), PUT_THINGS))

    def test_stops_and_fails(self):
        edition = old_edition()
        stand, state = (IDLE, (var("a"), var("b"))), (IDLE, (1, 2))
        self.assertEqual(next_stand(edition, stand, "put", ("green", "bad"), (SELF, SELF), [], SELF), (
            None, ((), (), (), (), ("stop",))))
        self.assertEqual(next_stand(edition, stand, "put", ("green", "ended"), (SELF, SELF), [var("k")], SELF), (
            None, (((var("k"), "kid", (), ()),), (), (), ((SELF, "tick", (), ()),), ("fail", "worse"))))
        self.assertEqual(next_state(MEANING, edition, state, "gone", ("bad",), (4,), [], 6), (
            None, ((), (), (), (), ("fail", "bad"))))
        self.assertEqual(next_state(MEANING, edition, state, "gone", ["ended"], [4], [], 6), (
            (("cell", "busy", ()), (54,)), ((), (4,), (), (), ("go", "busy", (), (54,)))))

    def test_errors_in_order(self):
        edition = old_edition()
        asks = (
            lambda control, kind, words: next_stand(edition, (control, 7), kind, words, 7, 7, 7),
            lambda control, kind, words: next_state(MEANING, edition, (control, 7), kind, words, 7, 7, 7),
        )
        for ask in asks:
            for control in NO_CONTROLS + anythings():
                with self.assertRaises(BadControl):
                    ask(control, "none", 7)
            for kind in anythings() + ["none", "set", True]:
                with self.assertRaises(UnknownName) as caught:
                    ask(IDLE, kind, 7)
                self.assertIs(caught.exception.name, kind)
            for kind in ("ask",):
                with self.assertRaises(NotNow):
                    ask(IDLE, kind, 7)
            with self.assertRaises(NotNow):
                ask(("cell", "busy", ()), "gone", 7)
            for words in anythings() + [("red",), ("bad", "red"), (), True, {}]:
                with self.assertRaises(BadWords):
                    ask(IDLE, "put", words)

    def test_tuples_alone(self):
        """Whatever lists are passed, what comes out is made of tuples."""
        def is_plain(value):
            return isinstance(value, (int, str)) or isinstance(value, tuple) and all(map(is_plain, value))

        edition = old_edition()
        for control in controls(edition, "cell"):
            for kind in edition.kinds():
                for words in ([], ["red", "bad"], ["ended"]):
                    try:
                        state = (control, (1, 2)[:len(edition.mode(*control[:2])[2])])
                        told = next_state(MEANING, edition, state, kind[0], words, [1, 2], [7, 8], 9)
                    except (NotNow, BadWords):
                        continue
                    self.assertTrue(told[0] is None or is_plain(told[0]))
                    self.assertTrue(is_plain(told[1]))
        for words in starts(edition, "cell"):
            self.assertTrue(is_plain(first_state(MEANING, edition, "cell", list(words), [1], 2)))

    def test_against_edges(self):
        """A step is the edge, carried out for what the registers hold."""
        edition = new_edition()
        for control, kind, words, told in arrows(edition, "unit"):
            names = edition.mode(control[0], control[1])[2]
            held = tuple(of("up", var(("r", x))) for x in names)
            fields = [var(("f", x)) for x in edition.kind(kind)[3]]
            stand, deeds = next_stand(edition, (control, held), kind, words, fields, [], var("me"))
            table = {("register", x): term for x, term in zip(names, held)}
            table.update({("field", x): term for x, term in zip(edition.kind(kind)[3], fields)})
            self.assertEqual(deeds, put_edge(edge(edition, control, kind, words), {**table, ("self",): var("me")}))
            end = deeds[4]
            self.assertEqual(stand, ((control[0], end[1], end[2]), end[3]) if end[0] == "go" else None)
            values = {variable: 5 for variable in [("r", x) for x in names] + [("f", x[1][1]) for x in fields] + ["me"]}
            state = (control, tuple(value_of(MEANING, term, values) for term in held))
            told_state, told_deeds = next_state(MEANING, edition, state, kind, words, [5] * len(fields), [], 5)
            self.assertEqual(told_deeds, valued(MEANING, deeds, values))
            self.assertEqual(told_state is None, stand is None)
        self.assertEqual(field("a"), var(("field", "a")))


if __name__ == "__main__":
    unittest.main()
