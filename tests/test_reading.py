"""movedactors.reading: messages and births of a chain, raising, elder forms and reading."""

import unittest

from movedactors.controls import markings
from movedactors.errors import BadSystem, NotNow
from movedactors.raising import changed_message, changed_start
from movedactors.reading import elder_forms, is_birth, is_message, raised, raised_birth, read
from movedactors.reader import read_change, read_edition
from movedactors.systems import System
from samples import anythings
from world import ACTORS, BOOK, FIRST, MEANING, TO_SECOND, lone, system

M0 = (0, "put", ("red",), (9,))
B0 = (0, "cell", ("red",), (11,))

# Which elder forms are there: same as p and q, both lead to a; of d a term is none of a field, of t one comes twice.
ELDER = read_edition(BOOK, """
    edition {
        kind p main (c color) (x, y);
        kind q main (c color, s size) (x);
        kind d main () (x);
        kind t main (c color) (x, y);
        kind w side (s size, m size) (x, y, z);
        role r { mode m () () [main]; start () () { go m () (); }
            on m p { stop; } on m q { stop; } on m d { stop; } on m t { stop; } }
    }
""")
YOUNG = read_edition(BOOK, """
    edition {
        kind a main (c color) (u);
        kind b main (c color) (u, v);
        kind n main () ();
        kind e side (s size) (u, v);
        role r { mode m () () []; start () () { go m () (); } }
    }
""")
TO_YOUNG = read_change(ELDER, YOUNG, """
    change {
        kind p to a ($c) (y);
        kind q to a (s[small : red, big : red]) (x);
        kind d to b (green) (up(x), x);
        kind t to b ($c) (x, x);
        kind w to e (m[small : big, big : small]) (z, x);
        role r to r () ();
    }
""")


def elder_system():
    return System(MEANING, [ELDER, YOUNG], [TO_YOUNG], [], [])


class Kinds(unittest.TestCase):
    def test_messages(self):
        one = system()
        for value in (M0, (0, "gone", ("bad",), (0,)), (1, "query", (), (10 ** 29, 2)), (2, "none", (), (4,)),
                      (1, "set", ("big", "red"), (1,)), (2, "gone", ("worse",), (3,)), (0, "ask", (), (4,))):
            self.assertIs(is_message(one, value), True)
        for value in [
            M0[:3], M0 + (1,), list(M0), (True,) + M0[1:], (False,) + M0[1:], (3,) + M0[1:], (-1,) + M0[1:],
            ("0",) + M0[1:], (1,) + M0[1:], (0, "set", ("big", "red"), (1,)), (0, "main", ("red",), (9,)),
            (0, "put", ["red"], (9,)), (0, "put", ("big",), (9,)), (0, "put", (), (9,)), (0, "put", ("red", "red"), (9,)),
            (0, "put", ("red",), [9]), (0, "put", ("red",), ()), (0, "put", ("red",), (9, 9)),
            (0, "put", ("red",), (True,)), (0, "put", ("red",), (-1,)), (0, "put", ("red",), ("9",)),
            (0, "gone", ("Bad",), (0,)), (0, "gone", (), (0,)), (0, "gone", ("bad",), ()), B0, True, 0,
        ] + anythings():
            self.assertIs(is_message(one, value), False, value)
        for k in range(4):
            for value in anythings():
                self.assertIs(is_message(one, M0[:k] + (value,) + M0[k + 1:]), False)
        for value in anythings():
            self.assertIs(is_message(one, (0, "put", (value,), (9,))), False)
            self.assertIs(is_message(one, (0, "put", ("red",), (value,))), False)
        self.assertIs(is_message(lone(), (1, "query", (), (1, 2))), False)

    def test_births(self):
        one = system()
        for value in (B0, (1, "box", ("small", "red"), (0,)), (2, "box", ("red",), (1, 2)), (2, "kid", (), ())):
            self.assertIs(is_birth(one, value), True)
        for value in [
            B0[:3], B0 + (1,), list(B0), (True,) + B0[1:], (3,) + B0[1:], (1,) + B0[1:], (0, "box", ("red",), (1,)),
            (0, "cell", ["red"], (1,)), (0, "cell", (), (1,)), (0, "cell", ("big",), (1,)), (0, "cell", ("red",), [1]),
            (0, "cell", ("red",), ()), (0, "cell", ("red",), (True,)), (0, "cell", ("red",), (-1,)), (0, "idle", (), ()),
            M0, (0, "gone", ("bad",), (1,)), True, 0,
        ] + anythings():
            self.assertIs(is_birth(one, value), False, value)
        for k in range(4):
            for value in anythings():
                self.assertIs(is_birth(one, B0[:k] + (value,) + B0[k + 1:]), False)


class Raising(unittest.TestCase):
    def test_one_after_another(self):
        one = system()
        self.assertEqual(raised(one, M0, 0), M0)
        self.assertEqual(raised(one, M0, 1), (1, "set", ("big", "red"), (9,)))
        self.assertEqual(raised(one, M0, 2), (2, "put", ("red",), (9, 7)))
        self.assertEqual(raised(one, (0, "ask", (), (5,)), 1), (1, "query", (), (5, 105)))
        self.assertEqual(raised(one, (0, "ask", (), (5,)), 2), (2, "ask", (), (105,)))
        self.assertEqual(raised(one, (0, "both", ("green", "small"), (5, 6)), 1), (1, "set", ("small", "green"), (5,)))
        self.assertEqual(raised(one, (1, "more", (), (6,)), 2), (2, "none", (), (6,)))

    def test_births(self):
        one = system()
        self.assertEqual(raised_birth(one, B0, 0), B0)
        self.assertEqual(raised_birth(one, B0, 1), (1, "box", ("small", "red"), (111,)))
        self.assertEqual(raised_birth(one, (0, "cell", ("green",), (3,)), 2), (2, "box", ("green",), (103, 0)))
        self.assertEqual(raised_birth(one, (1, "box", ("big", "red"), (3,)), 2), (2, "box", ("red",), (3, 103)))
        self.assertEqual(raised_birth(one, (0, "kid", (), ()), 2), (2, "kid", (), ()))

    def test_gone(self):
        for number in range(3):
            self.assertEqual(raised(system(), (0, "gone", ("bad",), (4,)), number), (number, "gone", ("bad",), (4,)))

    def test_in_two_steps_as_in_one(self):
        one = system()
        for number, edition in enumerate(one.editions()[:2]):
            for kind in edition.kinds():
                for words in markings(BOOK, kind[2]):
                    message = (number, kind[0], words, tuple(range(3, 3 + len(kind[3]))))
                    step = raised(one, message, number + 1)
                    change = one.changes()[number]
                    self.assertEqual(step, (number + 1,) + changed_message(MEANING, change, *message[1:]))
                    self.assertEqual(raised(one, step, 2), raised(one, message, 2))
            for role in edition.roles():
                for words in markings(BOOK, role[2][0]):
                    birth = (number, role[0], words, tuple(range(3, 3 + len(role[2][1]))))
                    step = raised_birth(one, birth, number + 1)
                    change = one.changes()[number]
                    self.assertEqual(step, (number + 1,) + changed_start(MEANING, change, *birth[1:]))
                    self.assertEqual(raised_birth(one, step, 2), raised_birth(one, birth, 2))

    def test_errors_first_of_all(self):
        one = system()
        for value in anythings() + [B0, list(M0), M0[:3], (True,) + M0[1:], (0, "put", ("red",), (True,)), True]:
            for ask in (lambda x: raised(one, x, 7), lambda x: elder_forms(one, x), lambda x: read(one, 7, x)):
                with self.assertRaises(BadSystem) as caught:
                    ask(value)
                self.assertEqual(caught.exception.word, "message")
        for value in anythings() + [M0, list(B0), B0[:3], (0, "cell", ("red",), (True,)), True]:
            with self.assertRaises(BadSystem) as caught:
                raised_birth(one, value, 7)
            self.assertEqual(caught.exception.word, "birth")


class Elder(unittest.TestCase):
    def test_in_order(self):
        """By their kinds, and then by their markings; what is lost is 0."""
        one = elder_system()
        self.assertEqual(elder_forms(one, (1, "a", ("red",), (5,))), [
            (0, "p", ("red",), (0, 5)),
            (0, "q", ("red", "small"), (5,)), (0, "q", ("red", "big"), (5,)),
            (0, "q", ("green", "small"), (5,)), (0, "q", ("green", "big"), (5,))])
        self.assertEqual(elder_forms(one, (1, "a", ("green",), (5,))), [(0, "p", ("green",), (0, 5))])
        self.assertEqual(elder_forms(one, (1, "e", ("big",), (5, 6))), [
            (0, "w", ("small", "small"), (6, 0, 5)), (0, "w", ("big", "small"), (6, 0, 5))])

    def test_none(self):
        """None where a term is no field, or a field stands twice, and of a kind that no change leads to."""
        one = elder_system()
        for message in ((1, "b", ("green",), (105, 5)), (1, "b", ("red",), (5, 5)), (1, "b", ("red",), (5, 6)),
                        (1, "n", (), ())):
            self.assertEqual(elder_forms(one, message), [])
        self.assertEqual(elder_forms(system(), (1, "query", (), (5, 105))), [])
        self.assertEqual(elder_forms(system(), (2, "put", ("red",), (5, 7))), [])

    def test_gone(self):
        for number in (1, 2):
            told = elder_forms(system(), (number, "gone", ("bad",), (4,)))
            self.assertEqual(told, [(number - 1, "gone", ("bad",), (4,))])
        self.assertEqual(elder_forms(elder_system(), (1, "gone", ("ended",), (4,))), [(0, "gone", ("ended",), (4,))])

    def test_not_now(self):
        for message in (M0, (0, "gone", ("bad",), (4,)), (0, "ask", (), (3,))):
            with self.assertRaises(NotNow):
                elder_forms(system(), message)

    def test_told_lists_are_new(self):
        one = elder_system()
        elder_forms(one, (1, "a", ("green",), (5,))).clear()
        self.assertEqual(len(elder_forms(one, (1, "a", ("green",), (5,)))), 1)

    def test_raised_they_are_the_message_again(self):
        """The elder forms are just the messages without things but of the fields, that the change makes into it."""
        for one, change, old in ((elder_system(), TO_YOUNG, ELDER), (system(), TO_SECOND, FIRST)):
            for kind in change.new().kinds():
                for words in markings(BOOK, kind[2]):
                    message = (1, kind[0], words, tuple(range(3, 3 + len(kind[3]))))
                    forms = elder_forms(one, message)
                    for form in forms:
                        self.assertEqual(raised(one, form, 1), message)
                    expected = []
                    for elder in old.kinds():
                        for marking in markings(BOOK, elder[2]):
                            for blank in (0, 50):
                                things = tuple(blank + k for k in range(len(elder[3])))
                                told = changed_message(MEANING, change, elder[0], marking, things)
                                if told[:2] != message[1:3]:
                                    break
                                places = [told[2].index(thing) if told[2].count(thing) == 1 else None
                                          for thing in things]
                            else:
                                if sum(place is not None for place in places) == len(kind[3]):
                                    expected.append((0, elder[0], marking, tuple(
                                        0 if place is None else message[3][place] for place in places)))
                    self.assertEqual(forms, expected)


class Reading(unittest.TestCase):
    def test_up(self):
        one = system()
        self.assertEqual(read(one, 0, M0), M0)
        self.assertEqual(read(one, 1, M0), (1, "set", ("big", "red"), (9,)))
        self.assertEqual(read(one, 2, M0), (2, "put", ("red",), (9, 7)))

    def test_down(self):
        one = system()
        self.assertEqual(read(one, 0, (1, "set", ("big", "red"), (9,))), M0)
        self.assertEqual(read(one, 0, (1, "set", ("small", "red"), (9,))), (0, "both", ("red", "small"), (9, 0)))
        self.assertEqual(read(one, 1, (2, "none", (), (6,))), (1, "more", (), (6,)))
        self.assertEqual(read(one, 1, (2, "ask", (), (6,))), (1, "query", (), (0, 6)))
        for number in range(3):
            self.assertEqual(read(one, number, (2, "gone", ("bad",), (4,))), (number, "gone", ("bad",), (4,)))

    def test_not_at_all(self):
        """The first elder form alone is tried at each step."""
        one = system()
        self.assertIsNone(read(one, 0, (1, "query", (), (5, 105))))
        self.assertIsNone(read(one, 1, (2, "put", ("red",), (5, 7))))
        self.assertIsNone(read(one, 0, (2, "ask", (), (6,))))
        self.assertIsNone(read(one, 0, (2, "none", (), (6,))))

    def test_a_later_elder_form_would_do(self):
        oldest = read_edition(BOOK, """
            edition { kind z main () (x);
                role r { mode m () () []; start () () { go m () (); } } }
        """)
        middle = read_edition(BOOK, """
            edition { kind i main () (x); kind j main () (x);
                role r { mode m () () []; start () () { go m () (); } } }
        """)
        newest = read_edition(BOOK, """
            edition { kind k main () (x);
                role r { mode m () () []; start () () { go m () (); } } }
        """)
        to_middle = read_change(oldest, middle, "change { kind z to j () (x); role r to r () (); }")
        to_newest = read_change(middle, newest, "change { kind i to k () (x); kind j to k () (x); role r to r () (); }")
        one = System(MEANING, [oldest, middle, newest], [to_middle, to_newest], [], [])
        self.assertEqual(elder_forms(one, (2, "k", (), (5,))), [(1, "i", (), (5,)), (1, "j", (), (5,))])
        self.assertEqual(read(one, 0, (1, "j", (), (5,))), (0, "z", (), (5,)))
        self.assertIsNone(read(one, 0, (2, "k", (), (5,))))
        self.assertEqual(read(one, 1, (2, "k", (), (5,))), (1, "i", (), (5,)))

    def test_nothing_changes(self):
        one = system(actors=ACTORS)
        read(one, 0, (1, "set", ("big", "red"), (9,)))
        raised(one, M0, 2)
        self.assertEqual(one, system())


if __name__ == "__main__":
    unittest.main()
