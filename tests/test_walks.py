"""movedactors.walks: possible histories, walked histories, lived lives."""

import random
import unittest

from movedactors.controls import markings, started, starts, takes
from movedactors.edges import edge
from movedactors.errors import BadPaper
from movedactors.handling import next_stand
from movedactors.meanings import Meaning, value_of
from movedactors.walks import is_possible, lived, valued, walked
from samples import SELF, anythings, given, nested, new_edition, of, old_edition, var
from test_edges import ring_edition
from world import BOOK, FIRST, MEANING, SECOND, THIRD

RED = ("cell", ("red",))
PUT = ("put", ("red",))
BOTH = ("both", ("green", "big"))
ASK = ("ask", ())
ENDED = ("gone", ("ended",))


def at(word, k, x):
    return var((word, k, x))


def chosen_history(chosen, edition, role, most):
    """A possible history, chosen step by step, which may end with a stop or a fail."""
    words = chosen.choice(starts(edition, role))
    control = started(edition, role, words)[0]
    steps = []
    while len(steps) < most and control is not None:
        kinds = [kind for kind in edition.kinds() if takes(edition, control, kind[0])]
        if not kinds:
            break
        kind = chosen.choice(kinds)
        step = (kind[0], chosen.choice(markings(edition.book(), kind[2])))
        steps.append(step)
        end = edge(edition, control, *step)[4]
        control = (role, end[1], end[2]) if end[0] == "go" else None
    return (role, words, tuple(steps))


class Possible(unittest.TestCase):
    def told(self, steps, answer, edition=FIRST, first=RED):
        self.assertIs(is_possible(edition, first + (steps,)), answer, steps)

    def test_that_go_on(self):
        for steps in ((), (PUT,), (PUT, PUT, BOTH), (BOTH, ASK, ENDED, PUT), (ENDED,) * 5):
            self.told(steps, True)
        self.assertIs(is_possible(FIRST, ("cell", ("green",), (ASK, PUT))), True)
        self.assertIs(is_possible(FIRST, ("kid", (), (ASK, ASK))), True)

    def test_that_end(self):
        """A stop or a fail may be the last step, and no other one."""
        for end in (("put", ("green",)), ("gone", ("closed",)), ("gone", ("bad",))):
            self.told((end,), True)
            self.told((PUT, end), True)
            self.told((end, PUT), False)
            self.told((end, end), False)
            self.told((PUT, end, ASK), False)

    def test_words_of_the_control(self):
        """Which edge a step has is told by the words that the steps before it led to, too."""
        to = [("to", (word,)) for word in ("red", "green", "blue")]
        for steps, answer in (((to[0], to[0]), True), ((to[2], to[0]), False), ((to[1], to[2], ("by", ("bad", "big"))), True),
                              ((to[1], to[2], to[0]), False), ((to[0], to[1], to[1], ("by", ("ended", "big"))), True)):
            self.told(steps, answer, ring_edition(), ("r", ("small",)))

    def test_kinds_that_are_not_taken(self):
        for steps in ((ASK,), (PUT, ASK), (BOTH, PUT), (BOTH, ENDED), (BOTH, BOTH)):
            self.told(steps, False)
        self.assertIs(is_possible(FIRST, ("kid", (), (ENDED,))), False)
        self.assertIs(is_possible(FIRST, ("kid", (), (ASK, ENDED))), False)
        self.assertIs(is_possible(FIRST, ("cell", ("green",), (PUT,))), False)

    def test_words_that_are_no_marking(self):
        for words in ((), ("red", "red"), ("big",), ("ended",), ["red"], "red", ("Red",), (("red",),), (True,), None):
            self.told((("put", words),), False)
            self.assertIs(is_possible(FIRST, ("cell", words, ())), False)
            self.told((PUT, ("put", words)), False)
        for words in ((), ("red",), ("Ended",), ["ended"]):
            self.told((("gone", words),), False)

    def test_lists_inside(self):
        history = ("cell", ("red",), (PUT, BOTH))
        self.assertIs(is_possible(FIRST, history), True)
        for wrong in (list(history), ("cell", ["red"], (PUT, BOTH)), ("cell", ("red",), [PUT, BOTH]),
                      ("cell", ("red",), (PUT, list(BOTH))), ("cell", ("red",), (("put", ["red"]), BOTH))):
            self.assertIs(is_possible(FIRST, wrong), False)

    def test_anything(self):
        for value in anythings() + [True, 0, ("cell", ("red",)), ("cell", ("red",), (), ()), tuple(anythings()[:3])]:
            self.assertIs(is_possible(FIRST, value), False)
            self.assertIs(is_possible(FIRST, (value, ("red",), ())), False)
            self.assertIs(is_possible(FIRST, ("cell", value, ())), False)
            self.assertIs(is_possible(FIRST, ("cell", ("red",), value)), False)
            self.assertIs(is_possible(FIRST, ("cell", ("red",), (value,))), False)
            self.assertIs(is_possible(FIRST, ("cell", ("red",), (PUT, value))), False)
            self.assertIs(is_possible(FIRST, ("cell", ("red",), ((value, ("red",)),))), False)
            self.assertIs(is_possible(FIRST, ("cell", ("red",), (("put", value),))), False)
            self.assertIs(is_possible(FIRST, ("cell", ("red",), (("put", (value,)),))), False)
            self.assertIs(is_possible(FIRST, ("kid", value, ())), False)
        for role in ("none", "idle", "box", "unit"):
            self.assertIs(is_possible(FIRST, (role, ("red",), ())), False)
        for step in (("put", ("red",), ()), ("put",), ("set", ("red",)), ("main", ()), "put", ()):
            self.told((step,), False)

    def test_chosen(self):
        """A chosen history is possible; one with a step exchanged is possible if its walk can be made."""
        chosen = random.Random(5)
        for k in range(200):
            edition, role = chosen.choice([
                (FIRST, "cell"), (SECOND, "box"), (THIRD, "box"), (old_edition(), "cell"), (ring_edition(), "r")])
            role, words, steps = chosen_history(chosen, edition, role, 6)
            self.assertIs(is_possible(edition, (role, words, steps)), True)
            kind = chosen.choice(edition.kinds())
            other = list(steps)
            other.insert(chosen.randrange(len(steps) + 1), (kind[0], chosen.choice(markings(edition.book(), kind[2]))))
            control, answer = started(edition, role, words)[0], True
            for name, marking in other:
                if control is None or not takes(edition, control, name):
                    answer = False
                    break
                end = edge(edition, control, name, marking)[4]
                control = (role, end[1], end[2]) if end[0] == "go" else None
            self.assertIs(is_possible(edition, (role, words, tuple(other))), answer)


class Walked(unittest.TestCase):
    def test_each_sort_of_variable(self):
        stands, deeds = walked(FIRST, ("cell", ("red",), (PUT, BOTH, ASK)))
        x1 = of("pair", given("i"), at("child", 0, "m"))
        self.assertEqual(stands, [
            (("cell", "idle", ("red",)), (given("i"),)),
            (("cell", "idle", ("green",)), (x1,)),
            (("cell", "busy", ()), (at("field", 1, "b"), at("field", 1, "a"))),
            (("cell", "idle", ("red",)), (at("field", 1, "a"),)),
        ])
        k, m, a = at("child", 0, "k"), at("child", 0, "m"), at("field", 0, "a")
        self.assertEqual(deeds, [
            (((k, "cell", ("red",), (a,)), (m, "kid", (), ())), (k, a), (m, given("i"), SELF),
             ((given("i"), "put", ("red",), (of("up", k),)), (m, "ask", (), (SELF,))),
             ("go", "idle", ("green",), (x1,))),
            ((), (), (), ((at("field", 1, "a"), "both", ("green", "big"), (at("field", 1, "b"), SELF)),),
             ("go", "busy", (), (at("field", 1, "b"), at("field", 1, "a")))),
            ((), (at("field", 2, "who"),), (), (), ("go", "idle", ("red",), (at("field", 1, "a"),))),
        ])

    def test_self(self):
        self.assertEqual(walked(FIRST, ("cell", ("green",), ()))[0], [(("cell", "busy", ()), (given("i"),
            of("up", SELF)))])

    def test_no_stand_behind_the_end(self):
        stands, deeds = walked(FIRST, ("cell", ("red",), (("put", ("green",)),)))
        self.assertEqual((len(stands), len(deeds)), (1, 1))
        self.assertEqual(deeds[0], ((), (), (), ((at("field", 0, "a"), "ask", (), (given("i"),)),), ("stop",)))
        stands, deeds = walked(FIRST, ("cell", ("red",), (PUT, ("put", ("green",)))))
        self.assertEqual((len(stands), len(deeds)), (2, 2))
        self.assertEqual(deeds[1], (((at("child", 1, "k"), "kid", (), ()),), (), (), (
            (at("child", 1, "k"), "ask", (), (at("field", 1, "a"),)),), ("fail", "bad")))

    def test_no_history(self):
        for value in anythings() + [("cell", ("red",), (ASK,)), ("cell", ["red"], ()), ("kid", (), (ENDED,)), (), True,
                                    ("cell", ("red",), (("put", ("green",)), PUT)), ("cell", ("red",))]:
            with self.assertRaises(BadPaper):
                walked(FIRST, value)

    def test_told_lists_are_new(self):
        history = ("cell", ("red",), (PUT,))
        stands, deeds = walked(FIRST, history)
        stands.clear()
        deeds.append(None)
        self.assertEqual([len(told) for told in walked(FIRST, history)], [2, 1])
        life = ("cell", ("red",), (1,), (("put", ("red",), (2,)),))
        states, deeds = lived(MEANING, FIRST, life, 1, [2, 3])
        states.clear()
        deeds.clear()
        self.assertEqual([len(told) for told in lived(MEANING, FIRST, life, 1, [2, 3])], [2, 1])

    def test_chosen(self):
        """Each step is a next stand, for the variables of its number."""
        chosen = random.Random(11)
        for k in range(60):
            edition, role = chosen.choice([(FIRST, "cell"), (SECOND, "box"), (old_edition(), "cell"),
                (new_edition(), "unit")])
            history = chosen_history(chosen, edition, role, 5)
            stands, deeds = walked(edition, history)
            for k, (kind, words) in enumerate(history[2]):
                makes = edge(edition, stands[k][0], kind, words)[0]
                fields = [at("field", k, x) for x in edition.kind(kind)[3]]
                told = next_stand(edition, stands[k], kind, words, fields, [at("child", k, m[0]) for m in makes], SELF)
                self.assertEqual(told, (stands[k + 1] if k + 1 < len(stands) else None, deeds[k]))


class Lived(unittest.TestCase):
    def test_one(self):
        life = ("cell", ("red",), (11,), (("put", ("red",), (9,)), ("both", ("green", "big"), (3, 4)),
            ("ask", (), (2,)), ("put", ("green",), (6,))))
        for supply in ([40, 30, 20, 10], (40, 30)):
            states, deeds = lived(MEANING, FIRST, life, 5, supply)
            self.assertEqual(states, [
                (("cell", "idle", ("red",)), (11,)), (("cell", "idle", ("green",)), (10000 + 1100 + 30,)),
                (("cell", "busy", ()), (4, 3)), (("cell", "idle", ("red",)), (3,))])
            self.assertEqual(deeds, [
                (((40, "cell", ("red",), (9,)), (30, "kid", (), ())), (40, 9), (30, 11, 5),
                 ((11, "put", ("red",), (140,)), (30, "ask", (), (5,))), ("go", "idle", ("green",), (11130,))),
                ((), (), (), ((3, "both", ("green", "big"), (4, 5)),), ("go", "busy", (), (4, 3))),
                ((), (2,), (), (), ("go", "idle", ("red",), (3,))),
                ((), (), (), ((6, "ask", (), (3,)),), ("stop",)),
            ])

    def test_children_in_order(self):
        """Each child that is made, also in a later step, gets the next address."""
        life = ("cell", ("red",), (1,), (("put", ("red",), (2,)), ("put", ("red",), (3,)), ("put", (), ())))
        with self.assertRaises(BadPaper):
            lived(MEANING, FIRST, life, 9, [1, 2, 3, 4])
        life = life[:3] + (life[3][:2],)
        _, deeds = lived(MEANING, FIRST, life, 9, [7, 5, 6, 4, 8])
        self.assertEqual([[make[0] for make in told[0]] for told in deeds], [[7, 5], [6, 4]])

    def test_no_life(self):
        good = ("cell", ("red",), (1,), (("put", ("red",), (2,)), ("both", ("green", "big"), (3, 4))))
        lived(MEANING, FIRST, good, 9, [1, 2])
        wrong = [
            ("cell", ("red",), good[3]), list(good), good + ((),), ("cell", ("red",), [1], good[3]),
            ("cell", ("red",), (1,), list(good[3])), ("cell", ["red"], (1,), good[3]),
        ]
        for things in ((), (1, 2), (True,), (False,), (-1,), ("1",), (None,), 1, [2], ((2,),), None, {}):
            wrong.append(("cell", ("red",), things, good[3]))
            wrong.append(("cell", ("red",), (1,), (("put", ("red",), things), good[3][1])))
            wrong.append(("cell", ("red",), (1,), good[3] + (("ask", (), things),)))
        for things in ((3,), (3, 4, 5), (3, True), (False, 4), [3, 4]):
            wrong.append(("cell", ("red",), (1,), (good[3][0], ("both", ("green", "big"), things))))
        for step in (("put", ("red",)), ["put", ("red",), (2,)], ("put", ["red"], (2,)), ("ask", (), (2,)),
                     ("gone", ("bad",), ()), ("none", (), ()), ("put", ("red",), (2,), ()), "put", ()):
            wrong.append(("cell", ("red",), (1,), (step,)))
        wrong.append(("cell", ("red",), (1,), (("put", ("green",), (2,)), ("put", ("red",), (2,)))))
        for value in wrong + anythings() + [nested(20), True, 0, ()]:
            with self.assertRaises(BadPaper):
                lived(MEANING, FIRST, value, 9, [1, 2, 3, 4])
        for value in anythings():
            for k in range(4):
                with self.assertRaises(BadPaper):
                    lived(MEANING, FIRST, good[:k] + (value,) + good[k + 1:], 9, [1, 2])

    def test_chosen(self):
        """The states and deeds of a life are those of its walked history, when each variable stands for its thing."""
        chosen = random.Random(12)
        for _ in range(80):
            edition, role = chosen.choice([(FIRST, "cell"), (SECOND, "box"), (old_edition(), "cell"),
                (new_edition(), "unit")])
            role, words, steps = chosen_history(chosen, edition, role, 6)
            meaning = Meaning({name: [(tuple(chosen.randrange(9) for _ in range(count)), chosen.randrange(1, 9))]
                               for name, count in BOOK.primitives()}) if chosen.randrange(2) else MEANING
            names = edition.start(role)[1]
            things = tuple(chosen.randrange(9) for _ in names)
            table = {("given", x): thing for x, thing in zip(names, things)}
            table[("self",)] = own = chosen.randrange(20)
            told = []
            for k, (kind, marking) in enumerate(steps):
                fields = edition.kind(kind)[3]
                told.append((kind, marking, tuple(chosen.randrange(9) for _ in fields)))
                table.update({("field", k, x): thing for x, thing in zip(fields, told[k][2])})
            supply = [chosen.randrange(1, 50) for _ in range(20)]
            stands, deeds = walked(edition, (role, words, steps))
            rest = list(supply)
            for done in deeds:
                table.update({make[0][1]: rest.pop(0) for make in done[0]})
            states, values = lived(meaning, edition, (role, words, things, tuple(told)), own, supply)
            self.assertEqual(states, [(control, tuple(value_of(meaning, term, table) for term in terms))
                                      for control, terms in stands])
            self.assertEqual(values, [valued(meaning, done, table) for done in deeds])


class Valued(unittest.TestCase):
    def test_one(self):
        deeds = (
            ((of("up", var("k")), "cell", ("red",), (var("a"),)),), (of("nil"),), (var("b"),),
            ((of("pair", var("a"), var("b")), "put", ("red",), (var("k"),)),), ("go", "idle", ("red",), (of("up",
                of("nil")),)))
        self.assertEqual(valued(MEANING, deeds, {"k": 1, "a": 2, "b": 3, "c": 4}), (
            ((101, "cell", ("red",), (2,)),), (7,), (3,), ((10203, "put", ("red",), (1,)),),
            ("go", "idle", ("red",), (107,))))
        for end in (("stop",), ("fail", "bad")):
            self.assertEqual(valued(MEANING, deeds[:4] + (end,), {"k": 1, "a": 2, "b": 3})[4], end)


if __name__ == "__main__":
    unittest.main()
