"""movedactors.logs: true logs, systems as they were, touched items, rows that are apart."""

import random
import unittest

from movedactors.choices import can, make, make_all, open_choices
from movedactors.errors import NotNow
from movedactors.logs import are_apart, as_was, first_false, touched
from randoms import random_run, running
from samples import anythings
from test_systems import standing
from world import system

PUT = (0, "put", ("red",), (9,))
ASK = (0, "ask", (), (6,))
CHOICES = [
    ("post", 1, PUT), ("link", 8, 1), ("bring", 0, 1), ("take", 1, "main"), ("move", 2), ("shift", "low"),
    ("watch", 8, 1), ("kill", 1, "bad"), ("bring", 1, 11), ("post", 3, ASK),
]


def run():
    one = system()
    make_all(one, CHOICES)
    return one


class Truth(unittest.TestCase):
    def test_true_logs(self):
        one = run()
        begun = one.beginning()
        self.assertIsNone(first_false(begun, one.log()))
        self.assertIsNone(first_false(begun, tuple(one.log())))
        self.assertIsNone(first_false(one, []))
        self.assertIsNone(first_false(one, ()))
        self.assertEqual((begun, begun.log()), (system(), []))
        self.assertIsNone(first_false(as_was(one, 3), one.log()[3:]))
        self.assertEqual(first_false(one, one.log()), 3)

    def test_a_spoilt_choice(self):
        log = run().log()
        for k, row in enumerate(log):
            for choice in (("post", 0, PUT), ("bring", 0, 77), list(row[0]), row[0] + (1,), ("kill", 1, "red"), 7, None):
                self.assertEqual(first_false(system(), log[:k] + [(choice, row[1])] + log[k + 1:]), k)
        self.assertEqual(first_false(system(), log[1:]), 1)
        self.assertEqual(first_false(system(), log[:3] + log[4:]), 6)

    def test_a_spoilt_event(self):
        log = run().log()
        for k, (choice, events) in enumerate(log):
            wrong = [events + (("out", 1, "bad"),), list(events), None, (events,), ((),), True, {}]
            if events:
                wrong += [events[:-1], events[1:], (list(events[0]),) + events[1:], events + events,
                          (events[0][:-1],) + events[1:], (events[0] + (1,),) + events[1:]]
            for spoilt in wrong:
                self.assertEqual(first_false(system(), log[:k] + [(choice, spoilt)] + log[k + 1:]), k)

    def test_true_is_no_number(self):
        """True and False do not stand for 1 and 0 in events, nor in choices."""
        def exchanged(value):
            if isinstance(value, tuple):
                return tuple(exchanged(member) for member in value)
            return {0: False, 1: True}.get(value, value) if isinstance(value, int) else value

        log = run().log()
        for k, (choice, events) in enumerate(log):
            if exchanged(choice) != choice or repr(exchanged(choice)) != repr(choice):
                self.assertEqual(first_false(system(), log[:k] + [(exchanged(choice), events)]), k)
            if repr(exchanged(events)) != repr(events):
                self.assertEqual(exchanged(events), events)
                self.assertEqual(first_false(system(), log[:k] + [(choice, exchanged(events))]), k)

    def test_no_pairs(self):
        log = run().log()
        for value in anythings() + [(), log[0][:1], log[0] + ((),), list(log[0]), True, 0, log[0][0]]:
            self.assertEqual(first_false(system(), [value]), 0)
            self.assertEqual(first_false(system(), tuple(log[:4]) + (value,)), 4)

    def test_anything(self):
        for value in anythings() + [True, 0, "log", {0: run().log()[0]}, None]:
            self.assertEqual(first_false(system(), value), None if value == [] else 0)
        for value in anythings():
            self.assertEqual(first_false(system(), [(value, ())]), 0)
            self.assertEqual(first_false(system(), [(("post", 1, PUT), value)]), 0)

    def test_runs(self):
        chosen = random.Random(1)
        for _ in range(10):
            one = running(chosen, 3)
            random_run(chosen, one, 30, make, open_choices, can)
            before, log = standing(one), one.log()
            self.assertIsNone(first_false(one.beginning(), log))
            k = chosen.randrange(30)
            self.assertIn(first_false(one.beginning(), log[:k] + log[k + 1:]), [None] + list(range(k, 30)))
            self.assertEqual((standing(one), one.log()), (before, log))


class Was(unittest.TestCase):
    def test_each_number(self):
        one = system()
        shots = [one.twin()]
        for choice in CHOICES:
            make(one, choice)
            shots.append(one.twin())
        for many, shot in enumerate(shots):
            told = as_was(one, many)
            self.assertEqual((told, told.log()), (shot, shot.log()))
            self.assertEqual(told.beginning(), system())
        make(as_was(one, 2), ("shift", "top"))
        self.assertEqual((one, one.log()), (shots[-1], shots[-1].log()))

    def test_not_now(self):
        """A log that tells of choices which its beginning alone cannot make."""
        one = system()
        one.place(1, (("cell", "busy", ()), (3, 4)))
        one.put_in_queue(1, "side", ASK)
        make(one, ("shift", "top"))
        make(one, ("take", 1, "side"))
        self.assertEqual(as_was(one, 0), system())
        self.assertEqual(as_was(one, 1).team("top"), (1, 0, False))
        with self.assertRaises(NotNow):
            as_was(one, 2)
        self.assertEqual(len(one.log()), 2)


class Apart(unittest.TestCase):
    def told(self, one, choice, *items):
        events = make(one, choice)
        found = touched((choice, events))
        self.assertIsInstance(found, list)
        self.assertEqual(len(found), len(set(found)))
        self.assertEqual(set(found), set(items))

    def test_touched(self):
        one = system()
        self.told(one, ("post", 1, PUT), ("road", 0))
        self.told(one, ("bring", 0, 1), ("road", 0), ("place", 1), ("queue", 1, "main"))
        self.told(one, ("take", 1, "main"), ("state", 1), ("queue", 1, "main"), ("road", 1), ("place", 20),
                  ("state", 20), ("place", 4), ("state", 4), ("supply",), ("links",), ("watches",))
        self.told(one, ("bring", 1, 11), ("road", 1), ("place", 11))
        one.put_on_road(1, 0, PUT)
        self.told(one, ("bring", 1, 0), ("road", 1), ("place", 0))
        self.told(one, ("link", 1, 3), ("links",), ("place", 1))
        self.told(one, ("watch", 3, 0), ("watches",), ("place", 3))
        self.told(one, ("move", 2), ("state", 2))
        self.told(one, ("shift", "low"), ("team", "low"))
        self.told(one, ("kill", 1, "bad"), ("all",))
        one.put_in_queue(5, "side", (1, "query", (), (5, 6)))
        one.put_state(5, 1, (("kid", "only", ()), ()))
        self.told(one, ("take", 5, "side"), ("all",))

    def test_takes_with_less(self):
        one = system()
        one.put_in_queue(3, "side", ASK)
        self.told(one, ("take", 3, "side"), ("state", 3), ("queue", 3, "side"), ("road", 3))
        one.put_in_queue(2, "side", ASK)
        self.told(one, ("take", 2, "side"), ("state", 2), ("queue", 2, "side"), ("road", 2), ("links",))
        self.assertEqual(set(touched((("take", 2, "side"), (("read", ASK), ("watched", 3), ("went", ()))))),
                         {("state", 2), ("queue", 2, "side"), ("road", 2), ("watches",)})
        self.assertEqual(set(touched((("take", 2, "side"), (("read", ASK), ("made", 7, ()), ("went", ()))))),
                         {("state", 2), ("queue", 2, "side"), ("road", 2), ("place", 7), ("state", 7), ("supply",)})

    def test_are_apart(self):
        post, kill = (("post", 1, PUT), ()), (("kill", 1, "bad"), (("out", 1, "bad"),))
        move, shift, link = (("move", 2), ()), (("shift", "top"), ()), (("link", 1, 2), ())
        bring = (("bring", 0, 1), (("queued", "main", PUT),))
        other = (("bring", 1, 1), (("queued", "main", PUT),))
        take = (("take", 1, "main"), (("read", PUT), ("went", ())))
        for one, two, answer in (
            (post, move, True), (post, post, False), (post, bring, False), (post, other, True), (move, shift, True),
            (shift, shift, False), (shift, (("shift", "low"), ()), True), (move, (("move", 3), ()), True),
            (move, move, False), (kill, post, False), (kill, kill, False), (link, other, False), (link, take, True),
            (bring, take, False), (other, take, False), (link, (("watch", 1, 2), ()), False),
            (link, (("watch", 2, 1), ()), True), (link, (("link", 2, 1), ()), False), (take, move, True),
            (take, (("move", 1), ()), False),
        ):
            self.assertIs(are_apart(one, two), answer, (one, two))
            self.assertIs(are_apart(two, one), answer, (one, two))

    def test_rows_that_are_apart_can_be_exchanged(self):
        chosen = random.Random(31)
        many = {}
        for _ in range(40):
            one = running(chosen, 2)
            random_run(chosen, one, 30, make, open_choices, can)
            log = one.log()
            for k in range(len(log) - 1):
                if are_apart(log[k], log[k + 1]):
                    other = as_was(one, k)
                    self.assertEqual(make(other, log[k + 1][0]), log[k + 1][1])
                    self.assertEqual(make(other, log[k][0]), log[k][1])
                    self.assertEqual(other, as_was(one, k + 2))
                    many[log[k][0][0]] = True
        self.assertEqual(set(many), {"post", "bring", "take", "move", "shift", "link", "watch"})


if __name__ == "__main__":
    unittest.main()
