"""movedactors.choices: what can be chosen, and what happens then."""

import random
import unittest

from movedactors.choices import can, make, make_all, open_choices
from movedactors.edges import edge
from movedactors.errors import NotNow
from movedactors.going import settled
from movedactors.handling import value_edge
from movedactors.reading import read
from samples import anythings
from randoms import random_choice, random_run, running
from test_systems import standing
from world import ACTORS, BOOK, MEANING, lone, system

PUT = (0, "put", ("red",), (9,))
SET = (1, "set", ("big", "red"), (9,))
QUERY = (1, "query", (), (5, 105))
ASK = (0, "ask", (), (6,))
GONE = (0, "gone", ("ended",), (4,))
IDLE = ("cell", "idle", ("green",))
KID = (0, "kid", (), ())


def ready(port, *messages, address=1, actors=ACTORS, supply=(20, 4)):
    """A system in which messages stand in a queue."""
    one = system(actors=actors, supply=supply)
    for message in messages:
        one.put_in_queue(address, port, message)
    return one


class Case(unittest.TestCase):
    def refused(self, one, choice):
        """A choice that cannot be made: nothing changes."""
        before, log = standing(one), one.log()
        self.assertIs(can(one, choice), False, choice)
        with self.assertRaises(NotNow):
            make(one, choice)
        self.assertEqual((standing(one), one.log()), (before, log))

    def made(self, one, choice, *events, **changed):
        """A choice that is made: its events, its row of the log, and just these changes of the standing."""
        before, log = standing(one), one.log()
        self.assertIs(can(one, choice), True)
        self.assertEqual((standing(one), one.log()), (before, log))
        told = make(one, choice)
        self.assertEqual(told, events)
        self.assertEqual(one.log(), log + [(choice, events)])
        self.assertEqual(standing(one), {**before, **changed})


class Posts(Case):
    def test_post(self):
        one = system()
        self.made(one, ("post", 1, PUT), road0=[(1, PUT)])
        self.made(one, ("post", 77, SET), road0=[(1, PUT), (77, SET)])
        self.made(one, ("post", 1, GONE), road0=[(1, PUT), (77, SET), (1, GONE)])

    def test_refused(self):
        one = system()
        for receiver in anythings() + [0, -1, True, False, "1", (1,)]:
            self.refused(one, ("post", receiver, PUT))
        for message in anythings() + [list(PUT), PUT[:3], (1,) + PUT[1:], (True,) + SET[1:], (0, "put", ["red"], (9,)),
                                      (0, "put", ("red",), (True,)), (3,) + PUT[1:], True]:
            self.refused(one, ("post", 1, message))


class Brings(Case):
    def test_to_the_outside(self):
        one = system()
        one.put_on_road(1, 0, PUT)
        one.put_on_road(1, 0, SET)
        self.made(one, ("bring", 1, 0), ("said", PUT), road1=[(0, SET)], said=[(1, PUT)])
        self.made(one, ("bring", 1, 0), ("said", SET), road1=[], said=[(1, PUT), (1, SET)])
        self.refused(one, ("bring", 1, 0))

    def test_to_queues(self):
        """By the port of the kind, in its own edition; the first pair with the receiver."""
        one = system()
        for receiver, message in ((3, ASK), (1, PUT), (1, SET), (1, QUERY), (1, GONE)):
            one.put_on_road(0, receiver, message)
        self.made(one, ("bring", 0, 1), ("queued", "main", PUT), queue1main=[PUT],
                  road0=[(3, ASK), (1, SET), (1, QUERY), (1, GONE)])
        self.made(one, ("bring", 0, 1), ("queued", "main", SET), queue1main=[PUT, SET],
                  road0=[(3, ASK), (1, QUERY), (1, GONE)])
        self.made(one, ("bring", 0, 1), ("queued", "side", QUERY), queue1side=[QUERY], road0=[(3, ASK), (1, GONE)])
        self.made(one, ("bring", 0, 1), ("queued", "gone", GONE), queue1gone=[GONE], road0=[(3, ASK)])
        self.made(one, ("bring", 0, 3), ("queued", "side", ASK), queue3side=[ASK], road0=[])

    def test_lost(self):
        one = system()
        one.put_out(2, "bad")
        one.put_on_road(0, 77, PUT)
        one.put_on_road(2, 2, SET)
        self.made(one, ("bring", 0, 77), ("lost", 77, (PUT,)), road0=[])
        self.made(one, ("bring", 2, 2), ("lost", 2, (SET,)), road2=[])

    def test_refused(self):
        one = system()
        one.put_on_road(0, 1, PUT)
        one.put_on_road(1, 0, PUT)
        for choice in (("bring", 0, 2), ("bring", 1, 1), ("bring", 2, 0), ("bring", 0, True), ("bring", False, 1),
                       ("bring", True, 0), ("bring", 1, False), ("bring", 77, 1), ("bring", 0), ("bring", 0, 1, 1)):
            self.refused(one, choice)
        for value in anythings():
            self.refused(one, ("bring", value, 1))
            self.refused(one, ("bring", 0, value))


class Takes(Case):
    def test_all_deeds_in_order(self):
        one = ready("main", PUT, ASK)
        cell, kid = (0, "cell", ("red",), (9,)), KID
        sent = (0, "put", ("red",), (120,))
        asked = (0, "ask", (), (1,))
        self.made(
            one, ("take", 1, "main"),
            ("read", PUT), ("made", 20, cell), ("made", 4, kid), ("linked", 20), ("linked", 9), ("watched", 4),
            ("watched", 11), ("watched", 1), ("sent", 11, sent), ("sent", 4, asked), ("went", (IDLE, (11104,))),
            queue1main=[ASK], supply=[], next=[6, 7, 9, 10, 11, 12, 13, 14, 15], addresses=[1, 2, 3, 4, 5, 8, 20],
            birth20=cell, lives20=1, now20=(0, (("cell", "idle", ("red",)), (9,))), road20=[], queue20main=[],
            queue20side=[], queue20gone=[], birth4=kid, lives4=1, now4=(0, (("kid", "only", ()), ())), road4=[],
            queue4main=[], queue4side=[], queue4gone=[],
            links=[(1, 20), (1, 9)], watches=[(1, 4), (1, 11), (1, 1)], road1=[(11, sent), (4, asked)],
            now1=(0, (IDLE, (11104,))))

    def test_addresses_behind_the_supply(self):
        one = ready("main", PUT, supply=(6,))
        told = make(one, ("take", 1, "main"))
        self.assertEqual([event[1] for event in told if event[0] == "made"], [6, 4])
        self.assertEqual((one.supply(), one.state(1)), ([], (IDLE, (11104,))))
        one = ready("main", PUT, supply=())
        self.assertEqual([event[1] for event in make(one, ("take", 1, "main")) if event[0] == "made"], [4, 6])

    def test_stop(self):
        one = ready("main", (0, "put", ("green",), (6,)), SET)
        one.put_link(8, 1)
        one.put_link(2, 1)
        one.put_watch(2, 1)
        gone = (0, "gone", ("ended",), (1,))
        self.made(
            one, ("take", 1, "main"), ("read", (0, "put", ("green",), (6,))), ("sent", 6, (0, "ask", (), (11,))),
            ("out", 1, "ended"), ("told", 8, gone), ("told", 2, gone), ("lost", 1, (SET,)),
            now1="ended", road1=[(6, (0, "ask", (), (11,))), (8, gone), (2, gone)], links=[], watches=[], queue1main=[])

    def test_fail(self):
        """The deeds come first, then the going is settled with the reason; who is renewed keeps its road."""
        rows = ((1, 0, "cell", ("red",), (11,), (IDLE, (5,))),) + ACTORS[1:]
        one = ready("main", (0, "put", ("green",), (6,)), actors=rows)
        self.made(
            one, ("take", 1, "main"), ("read", (0, "put", ("green",), (6,))), ("made", 20, KID),
            ("sent", 20, (0, "ask", (), (6,))), ("out", 1, "bad"), ("used", "top", 1),
            ("renewed", 1, (0, "cell", ("red",), (7,))),
            queue1main=[], road1=[(20, (0, "ask", (), (6,)))], top=(0, 1, False), birth1=(0, "cell", ("red",), (7,)),
            lives1=2, now1=(0, (("cell", "idle", ("red",)), (7,))), supply=[4], birth20=KID, lives20=1,
            now20=(0, (("kid", "only", ()), ())), road20=[], queue20main=[], queue20side=[], queue20gone=[],
            addresses=[1, 2, 3, 5, 8, 20], next=[4, 6, 7, 9, 10, 11, 12, 13, 14])

    def test_gone(self):
        one = ready("gone", GONE)
        self.made(one, ("take", 1, "gone"), ("read", GONE), ("went", (("cell", "idle", ("red",)), (4,))),
                  queue1gone=[], now1=(0, (("cell", "idle", ("red",)), (4,))))

    def test_as_it_is_read(self):
        """Up and down; what the message is read as stands in the event, with the number of the actor's edition."""
        both = (0, "both", ("red", "small"), (9, 0))
        one = ready("main", (1, "set", ("small", "red"), (9,)))
        sent = (0, "both", ("red", "small"), (0, 1))
        self.made(one, ("take", 1, "main"), ("read", both), ("sent", 9, sent), ("went", (("cell", "busy", ()), (0, 9))),
                  queue1main=[], road1=[(9, sent)], now1=(0, (("cell", "busy", ()), (0, 9))))
        rows = ((1, 1, "box", ("big", "red"), (11,)),) + ACTORS[1:]
        one = ready("main", PUT, actors=rows)
        asked = (1, "query", (), (111, 1))
        self.made(one, ("take", 1, "main"), ("read", SET), ("sent", 9, asked), ("went", (("box", "rest", ("red",)), (9,))),
                  queue1main=[], road1=[(9, asked)], now1=(1, (("box", "rest", ("red",)), (9,))))

    def test_children_in_the_edition_of_the_actor(self):
        rows = ((3, 2, "kid", (), ()),) + ACTORS[:2] + ACTORS[3:]
        one = ready("side", (1, "query", (), (5, 6)), address=3, actors=rows)
        told = make(one, ("take", 3, "side"))
        self.assertEqual(told, (("read", (2, "ask", (), (6,))), ("made", 20, (2, "box", ("red",), (6, 3))),
                                ("went", (("kid", "only", ()), ()))))
        self.assertEqual((one.edition(20), one.state(20)), (2, (("box", "rest", ("red",)), (10603,))))

    def test_a_message_that_cannot_be_read_blocks_its_port(self):
        one = ready("side", QUERY, ASK, address=2)
        self.refused(one, ("take", 2, "side"))
        one.take_out_of_queue(2, "side")
        self.assertIs(can(one, ("take", 2, "side")), True)
        one = ready("main", (2, "put", ("red",), (5, 7)), PUT)
        one.put_in_queue(1, "gone", GONE)
        self.refused(one, ("take", 1, "main"))
        self.assertIs(can(one, ("take", 1, "gone")), True)

    def test_refused(self):
        one = ready("main", PUT)
        one.put_in_queue(1, "side", ASK)
        one.put_in_queue(2, "main", PUT)
        one.put_in_queue(8, "main", PUT)
        one.put_out(8, "bad")
        for choice in (("take", 1, "side"), ("take", 1, "gone"), ("take", 2, "main"), ("take", 3, "side"),
                       ("take", 8, "main"), ("take", 77, "main"), ("take", 0, "main"), ("take", True, "main"),
                       ("take", 1), ("take", 1, "main", "main"), ["take", 1, "main"], ("take", 1, "put")):
            self.refused(one, choice)
        for value in anythings():
            self.refused(one, ("take", value, "main"))
            self.refused(one, ("take", 1, value))

    def test_carried_out_as_the_edge(self):
        """In any run, what a take does is the edge of the message as it was read, carried out by things."""
        chosen = random.Random(21)
        takes = 0
        for _ in range(60):
            one = running(chosen, 3, states=True)
            for _ in range(50):
                choice = random_choice(chosen, one, one.editions(), open_choices(one))
                if not can(one, choice):
                    continue
                before = one.twin()
                told = make(one, choice)
                if choice[0] == "take":
                    takes += 1
                    self.check_take(before, one, choice, told)
        self.assertGreater(takes, 200)

    def check_take(self, before, one, choice, told):
        _, x, port = choice
        number, state = before.edition(x), before.state(x)
        message = read(before, number, before.queue(x, port)[0])
        edition = before.editions()[number]
        carried = edge(edition, state[0], message[1], message[2])
        table = dict(zip([("register", name) for name in edition.mode(*state[0][:2])[2]], state[1]))
        table.update(zip([("field", name) for name in edition.kind(message[1])[3]], message[3]))
        children = before.next_addresses(len(carried[0]))
        table.update({("child", row[0]): child for row, child in zip(carried[0], children)})
        deeds = value_edge(before.meaning(), carried, {**table, ("self",): x})
        events = [("read", message)]
        events += [("made", row[0], (number,) + row[1:]) for row in deeds[0]]
        events += [("linked", thing) for thing in deeds[1]] + [("watched", thing) for thing in deeds[2]]
        events += [("sent", row[0], (number,) + row[1:]) for row in deeds[3]]
        other = before.twin()
        other.take_out_of_queue(x, port)
        for row in deeds[0]:
            self.assertEqual(other.born((number,) + row[1:]), row[0])
        for thing in deeds[1]:
            other.put_link(x, thing)
        for thing in deeds[2]:
            other.put_watch(x, thing)
        for row in deeds[3]:
            other.put_on_road(x, row[0], (number,) + row[1:])
        end = deeds[4]
        if end[0] == "go":
            other.put_state(x, number, ((state[0][0], end[1], end[2]), end[3]))
            events.append(("went", other.state(x)))
        else:
            events += settled(other, x, "ended" if end[0] == "stop" else end[1])
        self.assertEqual(told, tuple(events))
        self.assertEqual(one, other)


class Others(Case):
    def test_kill(self):
        one = system()
        one.put_link(8, 1)
        gone = (0, "gone", ("closed",), (1,))
        self.made(one, ("kill", 1, "closed"), ("out", 1, "closed"), ("told", 8, gone), ("used", "top", 1),
                  ("renewed", 1, (0, "cell", ("red",), (7,))), links=[], road1=[(8, gone)], top=(0, 1, False), lives1=2,
                  birth1=(0, "cell", ("red",), (7,)), now1=(0, (("cell", "idle", ("red",)), (7,))))
        self.made(one, ("kill", 8, "ended"), ("out", 8, "ended"), now8="ended")
        for choice in (("kill", 8, "ended"), ("kill", 0, "bad"), ("kill", True, "bad"), ("kill", 77, "bad"),
                       ("kill", 1, "red"), ("kill", 1, "gone"), ("kill", 1), ("kill", 1, "bad", ())):
            self.refused(one, choice)
        for value in anythings():
            self.refused(one, ("kill", value, "bad"))
            self.refused(one, ("kill", 1, value))

    def test_link_and_watch(self):
        for word, key in (("link", "links"), ("watch", "watches")):
            one = system()
            one.put_out(8, "bad")
            pairs = []
            for other in (2, 2, 0, 1, 77, 8, 10 ** 29):
                pairs.append((1, other))
                self.made(one, (word, 1, other), **{key: list(pairs)})
            for choice in ((word, 8, 1), (word, 0, 1), (word, 77, 1), (word, True, 1), (word, 1, -1), (word, 1, True),
                           (word, 1), (word, 1, 2, 3)):
                self.refused(one, choice)
            for value in anythings():
                self.refused(one, (word, value, 1))
                self.refused(one, (word, 1, value))

    def test_move(self):
        """By ("register", x) and ("self",); all else stays."""
        one = ready("main", PUT)
        one.put_on_road(1, 2, PUT)
        one.put_link(1, 2)
        state = (("box", "rest", ("red",)), (10000 + 1100 + 1,))
        self.made(one, ("move", 1), ("moved", 1, state), now1=(1, state))
        self.made(one, ("move", 2), ("moved", 1, (("box", "work", ()), (102,))), now2=(1, (("box", "work", ()), (102,))))
        self.made(one, ("move", 1), ("moved", 2, (("box", "rest", ("red",)), (11101,))),
                  now1=(2, (("box", "rest", ("red",)), (11101,))))
        self.refused(one, ("move", 1))
        self.refused(one, ("move", 2))

    def test_move_without_a_row(self):
        one = system()
        one.place(1, (IDLE, (3,)))
        self.refused(one, ("move", 1))
        one.put_state(8, 1, (("box", "rest", ("green",)), (3,)))
        self.made(one, ("move", 8), ("moved", 2, (("box", "rest", ("red",)), (7,))),
                  now8=(2, (("box", "rest", ("red",)), (7,))))
        one.put_out(3, "bad")
        for choice in (("move", 3), ("move", 0), ("move", 77), ("move", True), ("move",), ("move", 2, 2)):
            self.refused(one, choice)
        for value in anythings():
            self.refused(one, ("move", value))
        self.refused(lone(), ("move", 1))

    def test_shift(self):
        one = system()
        one.set_team("low", 0, 1, True)
        self.made(one, ("shift", "low"), low=(1, 1, True))
        self.made(one, ("shift", "low"), low=(2, 1, True))
        self.refused(one, ("shift", "low"))
        self.made(one, ("shift", "top"), top=(1, 0, False))
        for choice in (("shift", "none"), ("shift",), ("shift", "top", "top"), ("shift", 1), ("shift", True)):
            self.refused(one, choice)
        for value in anythings():
            self.refused(one, ("shift", value))
        self.refused(lone(), ("shift", "top"))

    def test_anything(self):
        one = ready("main", PUT)
        for value in anythings() + [True, 0, (), ("post",), ("none", 1, 2), ("said", PUT), "post", (("post", 1, PUT),),
                                    ["post", 1, PUT], ["move", 1], ["shift", "top"], (1, "take", "main"), "move"]:
            self.refused(one, value)
        for value in anythings():
            self.refused(one, (value, 1))
            self.refused(one, (value, 1, 2))
            self.refused(one, (value, 1, PUT))


class Several(Case):
    def test_make_all(self):
        one, other = system(), system()
        choices = [("post", 1, PUT), ("bring", 0, 1), ("take", 1, "main"), ("move", 2), ("shift", "low")]
        told = make_all(one, choices)
        self.assertIsInstance(told, list)
        self.assertEqual(told, [make(other, choice) for choice in choices])
        self.assertEqual((one, one.log()), (other, other.log()))
        self.assertEqual(make_all(one, ()), [])
        self.assertEqual(len(choices), 5)

    def test_up_to_the_first_that_cannot_be_made(self):
        one = system()
        with self.assertRaises(NotNow):
            make_all(one, (("post", 1, PUT), ("shift", "low"), ("bring", 0, 2), ("shift", "top")))
        self.assertEqual([row[0] for row in one.log()], [("post", 1, PUT), ("shift", "low")])
        self.assertEqual((one.team("top"), one.team("low"), one.road(0)), ((0, 0, False), (1, 0, False), [(1, PUT)]))

    def test_open_choices(self):
        one = system(actors=ACTORS[:4] + ((8, 2, "box", ("red",), (1, 2)), (40, 1, "box", ("big", "red"), (1,))))
        self.assertEqual(open_choices(one), [("move", k) for k in (1, 2, 3, 5, 40)] + [("shift", "top"), ("shift", "low")])
        for sender, receiver in ((8, 1), (8, 0), (8, 1), (0, 77), (0, 3), (0, 77), (40, 40), (40, 5)):
            one.put_on_road(sender, receiver, PUT)
        one.put_out(8, "bad")
        for address, port, message in ((1, "gone", GONE), (1, "main", PUT), (1, "side", ASK), (5, "side", ASK),
                                       (3, "side", QUERY), (40, "main", SET)):
            one.put_in_queue(address, port, message)
        one.set_team("top", 2, 0, False)
        self.assertEqual(open_choices(one), [
            ("bring", 0, 3), ("bring", 0, 77), ("bring", 8, 0), ("bring", 8, 1), ("bring", 40, 5), ("bring", 40, 40),
            ("take", 1, "main"), ("take", 1, "gone"), ("take", 5, "side"), ("take", 40, "main"),
            ("move", 1), ("move", 2), ("move", 3), ("move", 5), ("move", 40), ("shift", "low")])
        open_choices(one).clear()
        self.assertEqual(len(open_choices(one)), 16)

    def test_a_chain_of_one_edition(self):
        one = lone()
        make_all(one, [("post", 3, ASK), ("post", 3, ASK), ("bring", 0, 3)])
        self.assertEqual(open_choices(one), [("bring", 0, 3), ("take", 3, "side")])
        self.made(one, ("kill", 8, "ended"), ("out", 8, "ended"), now8="ended")

    def test_open_choices_are_all_that_can_be_made(self):
        chosen = random.Random(5)
        for _ in range(15):
            one = running(chosen, 2, states=True)
            random_run(chosen, one, 25, make, open_choices, can)
            before = standing(one), one.log()
            told = open_choices(one)
            self.assertEqual((standing(one), one.log()), before)
            self.assertEqual(len(told), len(set(told)))
            for choice in told:
                self.assertIs(can(one, choice), True)
            things = list(range(45))
            every = [("bring", a, b) for a in things for b in things]
            every += [("take", a, port) for a in things for port in BOOK.ports()]
            every += [("move", a) for a in things] + [("shift", name) for name in ("top", "low")]
            self.assertEqual([choice for choice in every if can(one, choice)],
                             [choice for choice in told if max([0] + [x for x in choice if x.__class__ is int]) < 45])

    def test_meaning_of_the_world(self):
        self.assertEqual(MEANING.apply("pair", (11, 4)), 11104)


if __name__ == "__main__":
    unittest.main()
