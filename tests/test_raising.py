"""movedactors.raising: changed messages, changed starts, raised deeds."""

import random
import unittest

from movedactors.controls import markings, starts
from movedactors.edges import arrows
from movedactors.errors import BadWords, UnknownName
from movedactors.handling import put_edge, value_edge
from movedactors.meanings import Meaning, value_of
from movedactors.raising import (
    changed_message, changed_start, changed_terms, changed_words, raised_deeds, raised_values, start_terms, start_words,
)
from movedactors.walks import valued, walked
from samples import SELF, anythings, change, field, of, var
from test_edges import IDLE, PUT_EDGE
from test_handling import MEANING, PUT_DEEDS, PUT_THINGS, TABLE
from test_walks import chosen_history
from world import FIRST, TO_SECOND, TO_THIRD

# By the change of samples.py.
PUT_WORDS = [
    (("red", "ended"), ("red", "small")), (("green", "closed"), ("green", "big")), (("blue", "bad"), ("blue", "small")),
    (("red", "worse"), ("red", "big")),
]
START_WORDS = [(("red",), ("small", "red")), (("green",), ("big", "green")), (("blue",), ("big", "blue"))]


class Messages(unittest.TestCase):
    def test_words(self):
        """Changed words by a mark and a table, and by a word."""
        for old, new in PUT_WORDS:
            self.assertEqual(changed_words(change(), "put", old), ("set", new))
            self.assertEqual(changed_words(change(), "put", list(old)), ("set", new))
        for words in ((), []):
            self.assertEqual(changed_words(change(), "ask", words), ("query", ()))
            self.assertEqual(changed_words(change(), "tick", words), ("beat", ("closed",)))
        self.assertEqual(changed_words(TO_SECOND, "both", ("green", "small")), ("set", ("small", "green")))

    def test_gone_stays(self):
        for why in ("ended", "closed", "bad", "worse"):
            self.assertEqual(changed_words(change(), "gone", [why]), ("gone", (why,)))
            self.assertEqual(changed_terms(change(), "gone", (why,), [of("up", SELF)]), ("gone", (why,),
                (of("up", SELF),)))
            self.assertEqual(changed_message(MEANING, change(), "gone", (why,), (4,)), ("gone", (why,), (4,)))

    def test_by_terms(self):
        a, b = of("up", field("b")), var(("given", "a"))
        for words, terms in ((("red", "bad"), (a, b)), (["red", "bad"], [a, b])):
            self.assertEqual(changed_terms(change(), "put", words, terms), ("set", ("red", "small"), (of("pair", b,
                a),)))
        self.assertEqual(changed_terms(change(), "ask", (), (a,)), ("query", (), (a, of("up", a))))
        self.assertEqual(changed_terms(change(), "tick", (), ()), ("beat", ("closed",), ()))

    def test_by_things(self):
        for words, things in ((("red", "bad"), (4, 5)), (["red", "bad"], [4, 5])):
            self.assertEqual(changed_message(MEANING, change(), "put", words, things), ("set", ("red", "small"),
                (1504,)))
        self.assertEqual(changed_message(MEANING, change(), "ask", (), (4,)), ("query", (), (4, 54)))
        self.assertEqual(changed_message(Meaning({}), change(), "ask", (), (4,)), ("query", (), (4, 0)))
        self.assertEqual(changed_message(MEANING, TO_THIRD, "set", ("big", "red"), (4,)), ("put", ("red",), (4, 3)))

    def test_errors_in_order(self):
        one = change()
        asks = (
            lambda kind, words: changed_words(one, kind, words), lambda kind, words: changed_terms(one, kind, words, 7),
            lambda kind, words: changed_message(MEANING, one, kind, words, 7),
        )
        for ask in asks:
            for kind in anythings() + ["set", "query", "why", "cell", "main", True, 0, ("put",)]:
                with self.assertRaises(UnknownName) as caught:
                    ask(kind, 7)
                self.assertIs(caught.exception.name, kind)
            for words in anythings() + [("red",), ("bad", "red"), (), "red", {"red": 1, "bad": 2}, True, ("red", True)]:
                with self.assertRaises(BadWords):
                    ask("put", words)
            for words in ((), ("red",), "ended", ("ended", "bad"), (("ended",),)):
                with self.assertRaises(BadWords):
                    ask("gone", words)
            for words in anythings() + [("red",)]:
                if words != []:
                    with self.assertRaises(BadWords):
                        ask("tick", words)


class Starts(unittest.TestCase):
    def test_words(self):
        for old, new in START_WORDS:
            self.assertEqual(start_words(change(), "cell", old), ("unit", new))
            self.assertEqual(start_words(change(), "cell", list(old)), ("unit", new))
        self.assertEqual(start_words(change(), "kid", []), ("kid", ()))

    def test_by_terms_and_by_things(self):
        term = of("pair", var("a"), SELF)
        for words, terms, things in ((("green",), (term,), (6,)), (["green"], [term], [6])):
            self.assertEqual(start_terms(change(), "cell", words, terms), ("unit", ("big", "green"), (term, of("up",
                term))))
            self.assertEqual(changed_start(MEANING, change(), "cell", words, things), ("unit", ("big", "green"),
                (6, 56)))
        self.assertEqual(start_terms(change(), "kid", (), ()), ("kid", (), ()))
        self.assertEqual(changed_start(MEANING, change(), "kid", (), []), ("kid", (), ()))

    def test_errors_in_order(self):
        one = change()
        asks = (
            lambda role, words: start_words(one, role, words), lambda role, words: start_terms(one, role, words, 7),
            lambda role, words: changed_start(MEANING, one, role, words, 7),
        )
        for ask in asks:
            for role in anythings() + ["unit", "put", "gone", "idle", True, 0, ("cell",)]:
                with self.assertRaises(UnknownName) as caught:
                    ask(role, 7)
                self.assertIs(caught.exception.name, role)
            for words in anythings() + [("big",), ("red", "red"), (), "red", {"red": 1}, True, (True,)]:
                with self.assertRaises(BadWords):
                    ask("cell", words)


class Deeds(unittest.TestCase):
    def test_by_terms(self):
        """Makes and sends are changed, in order, and all else stays."""
        k, m = TABLE[("child", "k")], TABLE[("child", "m")]
        given = PUT_DEEDS[0][0][3][0]
        self.assertEqual(raised_deeds(change(), PUT_DEEDS), (
            ((k, "unit", ("big", "blue"), (given, of("up", given))), (m, "kid", (), ())),
            PUT_DEEDS[1], PUT_DEEDS[2],
            ((k, "set", ("red", "big"), (of("pair", m, of("up", var("p"))),)),
             (of("nil"), "query", (), (of("up", var("b")), of("up", of("up", var("b")))))),
            PUT_DEEDS[4],
        ))

    def test_by_things(self):
        self.assertEqual(raised_values(MEANING, change(), PUT_THINGS), (
            ((7, "unit", ("big", "blue"), (1108, 0)), (8, "kid", (), ())),
            (7, 54), (6,),
            ((7, "set", ("red", "big"), (1801,)), (3, "query", (), (55, 0))),
            PUT_THINGS[4],
        ))

    def test_nothing_to_raise(self):
        for end in (("stop",), ("fail", "bad"), ("go", "idle", ("red",), (SELF, SELF))):
            deeds = ((), (SELF,), (of("nil"), SELF), (), end)
            self.assertEqual(raised_deeds(change(), deeds), deeds)
            things = ((), (1,), (2, 3), (), end[:3] + ((4, 5),) if end[0] == "go" else end)
            self.assertEqual(raised_values(MEANING, change(), things), things)

    def test_agreement(self):
        """Raised deeds by things are the raised deeds by terms when each variable stands for its thing."""
        chosen = random.Random(4)
        for _ in range(60):
            history = chosen_history(chosen, FIRST, "cell", 5)
            for deeds in walked(FIRST, history)[1]:
                names = {}

                class Table(dict):
                    def __missing__(self, key):
                        return names.setdefault(key, chosen.randrange(1, 12))

                table = Table()
                values = valued(MEANING, deeds, table)
                told = valued(MEANING, raised_deeds(TO_SECOND, deeds), table)
                self.assertEqual(raised_values(MEANING, TO_SECOND, values), told)

    def test_of_every_edge(self):
        one = change()
        for _, _, _, told in arrows(one.old(), "cell"):
            deeds = put_edge(told, TABLE_OF_ALL)
            for old, new in zip(deeds[3], raised_deeds(one, deeds)[3]):
                self.assertEqual(new, old[:1] + changed_terms(one, *old[1:]))
            for old, new in zip(deeds[0], raised_deeds(one, deeds)[0]):
                self.assertEqual(new, old[:1] + start_terms(one, *old[1:]))
        self.assertEqual(IDLE[0], "cell")

    def test_markings_of_all_kinds(self):
        """By terms and by things and by words, a message becomes the same, for each marking."""
        for one in (change(), TO_SECOND, TO_THIRD):
            old = one.old()
            for kind in old.kinds():
                for words in markings(old.book(), kind[2]):
                    variables = [var(("f", x)) for x in kind[3]]
                    values = {("f", x): 3 + k for k, x in enumerate(kind[3])}
                    told = changed_terms(one, kind[0], words, variables)
                    self.assertEqual(told[:2], changed_words(one, kind[0], words))
                    self.assertEqual(
                        changed_message(MEANING, one, kind[0], words, list(values.values())),
                        told[:2] + (tuple(value_of(MEANING, term, values) for term in told[2]),))
            for role in old.roles():
                for words in starts(old, role[0]):
                    told = start_terms(one, role[0], words, [of("nil")] * len(role[2][1]))
                    self.assertEqual(told[:2], start_words(one, role[0], words))
                    self.assertEqual(
                        changed_start(MEANING, one, role[0], words, [3] * len(role[2][1])),
                        told[:2] + (tuple(value_of(MEANING, term, {}) for term in told[2]),))


TABLE_OF_ALL = {variable: var(variable) for variable in [
    ("register", "x"), ("register", "z"), ("field", "a"), ("field", "b"), ("field", "who"), ("self",),
    ("child", "k"), ("child", "m")]}


class Agreement(unittest.TestCase):
    def test_put_edge_of_the_samples(self):
        self.assertEqual(put_edge(PUT_EDGE, TABLE_OF_ALL)[1:], PUT_EDGE[1:])
        self.assertEqual(value_edge(MEANING, PUT_EDGE, {key: 1 for key in TABLE_OF_ALL})[0][1][0], 1)


if __name__ == "__main__":
    unittest.main()
