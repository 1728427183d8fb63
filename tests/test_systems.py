"""movedactors.systems: beginnings, what is asked of systems, and the methods that change them."""

import unittest

from movedactors.books import Book
from movedactors.editions import Edition
from movedactors.errors import BadSystem, NoActor, UnknownName
from movedactors.meanings import Meaning
from movedactors.systems import System
from samples import BOOK_PARTS, anythings, change, new_edition, old_edition, replaced
from world import ACTORS, FIRST, MEANING, SECOND, THIRD, TO_SECOND, TO_THIRD, lone, system

M1 = (0, "put", ("red",), (9,))
M2 = (1, "query", (), (1, 2))
M3 = (0, "gone", ("bad",), (4,))
IDLE = ("cell", "idle", ("green",))
NO_ADDRESSES = [True, False, 0, -1, 4, 99, "1", (1,), None, [1], {}, 10 ** 39]


class Made(unittest.TestCase):
    def bad(self, word, *, meaning=MEANING, editions=None, changes=None, supply=(), actors=ACTORS, first=0):
        editions = [FIRST, SECOND, THIRD] if editions is None else editions
        changes = [TO_SECOND, TO_THIRD] if changes is None else changes
        with self.assertRaises(BadSystem) as caught:
            System(meaning, editions, changes, supply, actors, first=first)
        self.assertEqual(caught.exception.word, word)

    def test_editions(self):
        other_book = Book(BOOK_PARTS[0], (("nil", 0),), ("main", "side"), ())
        other = Edition(other_book, [], [], ())
        for editions in ([], (), [FIRST, other], [other, SECOND, THIRD], [FIRST, SECOND, other]):
            self.bad("editions", editions=editions, changes=[], actors=7, supply=7, first=7)

    def test_changes(self):
        for changes in ([], [TO_SECOND], [TO_SECOND, TO_THIRD, TO_THIRD], [TO_THIRD, TO_SECOND], [TO_SECOND, TO_SECOND],
                        [change(), TO_THIRD], [TO_THIRD, TO_THIRD]):
            self.bad("changes", changes=changes, actors=7, supply=7, first=7)
        self.bad("changes", editions=[FIRST], changes=[TO_SECOND], first=7)
        self.bad("changes", editions=[SECOND, FIRST], changes=[TO_SECOND], first=7)
        self.bad("changes", editions=[FIRST, THIRD], changes=[TO_SECOND], first=7)

    def test_editions_that_are_equal_do(self):
        """Editions and changes that were made anew, and are equal, may be passed."""
        again = Edition(FIRST.book(), FIRST.kinds()[:-1], FIRST.roles(), FIRST.tree())
        made = System(MEANING, (again, SECOND), (TO_SECOND,), (), ACTORS)
        self.assertEqual(made, System(MEANING, [FIRST, SECOND], [TO_SECOND], [], list(ACTORS)))

    def test_first(self):
        for first in [3, -1, True, False, None, "0", (0,), [0]] + anythings():
            self.bad("first", first=first, actors=7, supply=7)
        for first in (0, 1, 2):
            self.assertEqual(system(first=first).team("low"), (first, 0, False))

    def test_rows_of_actors(self):
        row = ACTORS[0]
        wrong = [
            row[:4], row + (None,), row + ((IDLE, (1,)), 1), list(row), (1,), (), "row", None,
            (True,) + row[1:], (0,) + row[1:], (-1,) + row[1:], ("1",) + row[1:],
            replaced(row, (1,), True), replaced(row, (1,), False), replaced(row, (1,), 3), replaced(row, (1,), -1),
            replaced(row, (1,), "0"),
            replaced(row, (2,), "box"), replaced(row, (2,), "none"), replaced(row, (2,), ["cell"]),
            replaced(row, (3,), ()), replaced(row, (3,), ["red"]), replaced(row, (3,), ("big",)),
            replaced(row, (3,), ("red", "red")), replaced(row, (3,), "red"),
            replaced(row, (4,), ()), replaced(row, (4,), [11]), replaced(row, (4,), (1, 2)),
            replaced(row, (4,), (True,)), replaced(row, (4,), (-1,)), replaced(row, (4,), ("a",)),
        ]
        wrong += [replaced(row, (k,), value) for k in range(5) for value in anythings()]
        for value in wrong + anythings():
            self.bad("actors", actors=(value,) + ACTORS[1:], supply=7)
            self.bad("actors", actors=list(ACTORS) + [value], supply=7)

    def test_actors_as_a_whole(self):
        for actors in [value for value in anythings() if value != []] + [True, 0, "rows", {ACTORS[0]: 1}, None]:
            self.bad("actors", actors=actors, supply=7)
        for k in range(4):
            self.bad("actors", actors=ACTORS[:k] + ACTORS[k + 1:], supply=7)
        self.bad("actors", actors=(), supply=7)
        self.bad("actors", actors=ACTORS + (ACTORS[4],), supply=7)
        self.bad("actors", actors=ACTORS + ((1, 1, "kid", (), ()),), supply=7)
        self.assertEqual(system(actors=ACTORS[:4]).addresses(), [1, 2, 3, 5])
        empty = Edition(FIRST.book(), [], [], ())
        self.assertEqual(System(MEANING, [empty], [], [], []).addresses(), [])

    def test_births_of_slots_may_be_any(self):
        rows = ((1, 2, "kid", (), ()), (2, 1, "box", ("big", "red"), (3,)), (3, 0, "cell", ("red",), (1,)),
                (5, 1, "kid", (), ()))
        made = system(actors=rows)
        self.assertEqual([made.birth(k) for k in (1, 2, 3, 5)], [row[1:] for row in rows])
        self.assertEqual(made.state(2), (("box", "rest", ("red",)), (103,)))

    def test_sixth_member(self):
        made = system(actors=ACTORS[:4] + ((8, 0, "cell", ("red",), (1,), (IDLE, (5,))),))
        self.assertEqual(made.state(8), (IDLE, (5,)))
        self.assertEqual((made.birth(8), made.lives(8), made.edition(8)), ((0, "cell", ("red",), (1,)), 1, 0))
        for state in [
            (("kid", "only", ()), ()), (("box", "rest", ("red",)), (5,)), (IDLE, ()), (IDLE, [5]), (IDLE, (True,)),
            (IDLE, (-1,)), (IDLE, (5, 6)), (list(IDLE), (5,)), (IDLE,), (IDLE, (5,), ()), [IDLE, (5,)],
            (("cell", "idle", ()), (5,)), (("cell", "idle", ["green"]), (5,)), None, True, IDLE,
        ] + anythings():
            self.bad("actors", actors=ACTORS[:4] + ((8, 0, "cell", ("red",), (1,), state),), supply=7)

    def test_supply(self):
        for supply in [value for value in anythings() if value != []] + [
            True, 7, "20", {20: 1}, (1,), (8,), [20, 20], [20, 3], (0,), (-1,), (True,), [True], ("20",), ((20,),),
            [None], (20, [4]), None,
        ]:
            self.bad("supply", supply=supply)
        for supply in ([], (), [4], (20, 4), [10 ** 30, 9]):
            self.assertEqual(system(supply=supply).supply(), list(supply))

    def test_what_is_handed_in_may_be_changed_later(self):
        editions, changes = [FIRST, SECOND, THIRD], [TO_SECOND, TO_THIRD]
        supply, actors = [20, 4], list(ACTORS)
        made = System(MEANING, editions, changes, supply, actors)
        for told in (editions, changes, supply, actors):
            told.clear()
        self.assertEqual(made, system())
        self.assertEqual(made.beginning(), system())
        self.assertEqual(made.twin(), system())

    def test_beginning(self):
        made = system(first=1)
        made.born(ACTORS[0][1:])
        made.put_link(1, 2)
        made.put_row((("link", 1, 2), ()))
        begun = made.beginning()
        self.assertEqual(begun, system(first=1))
        self.assertEqual((begun.log(), begun.supply(), begun.team("top")), ([], [20, 4], (1, 0, False)))
        begun.put_watch(1, 1)
        self.assertEqual((made.watches(), made.beginning()), ([], system(first=1)))


class Asked(unittest.TestCase):
    def test_chain(self):
        made = system()
        self.assertEqual(made.meaning(), MEANING)
        self.assertEqual(made.editions(), [FIRST, SECOND, THIRD])
        self.assertEqual(made.changes(), [TO_SECOND, TO_THIRD])
        self.assertEqual((made.newest(), lone().newest()), (2, 0))

    def test_actors_that_are_in(self):
        made = system()
        self.assertEqual(made.addresses(), [1, 2, 3, 5, 8])
        self.assertEqual([made.is_in(k) for k in (1, 2, 3, 5, 8, 4, 20)], [True] * 5 + [False] * 2)
        self.assertEqual(made.birth(2), (0, "cell", ("green",), (12,)))
        self.assertEqual((made.lives(2), made.edition(2)), (1, 0))
        self.assertEqual(made.state(2), (("cell", "busy", ()), (12, 102)))
        self.assertEqual(made.state(1), (("cell", "idle", ("red",)), (11,)))
        self.assertEqual((made.state(3), made.heeds(1), made.heeds(2)), ((("kid", "only", ()), ()), True, False))
        with self.assertRaises(NoActor):
            made.why(2)

    def test_actors_that_are_out(self):
        made = system()
        made.put_out(2, "bad")
        self.assertEqual(made.addresses(), [1, 2, 3, 5, 8])
        self.assertIs(made.is_in(2), False)
        self.assertEqual((made.birth(2), made.lives(2), made.why(2)), ((0, "cell", ("green",), (12,)), 1, "bad"))
        for ask in (made.edition, made.state):
            with self.assertRaises(NoActor) as caught:
                ask(2)
            self.assertEqual(caught.exception.address, 2)

    def test_anything_as_an_address(self):
        made = system()
        made.put_out(2, "bad")
        made.put_on_road(0, 1, M1)
        for value in NO_ADDRESSES + anythings():
            self.assertIs(made.is_in(value), False)
            asks = [made.birth, made.lives, made.edition, made.state, made.why, lambda x: made.queue(x, "none"),
                    lambda x: made.place(x, 7)]
            if value != 0 or value is False:
                asks.append(made.road)
            for ask in asks:
                with self.assertRaises(NoActor) as caught:
                    ask(value)
                self.assertIs(caught.exception.address, value)

    def test_roads_and_queues(self):
        made = system()
        self.assertEqual((made.road(0), made.road(1), made.queue(1, "gone")), ([], [], []))
        made.put_on_road(0, 99, M1)
        made.put_on_road(0, 1, M2)
        made.put_in_queue(1, "main", M1)
        made.put_out(1, "bad")
        made.put_in_queue(1, "main", M3)
        self.assertEqual((made.road(0), made.road(1)), ([(99, M1), (1, M2)], []))
        self.assertEqual((made.queue(1, "main"), made.queue(1, "side"), made.queue(2, "main")), ([M1, M3], [], []))
        for value in anythings() + ["put", "color", True, 0, ("main",), None]:
            with self.assertRaises(UnknownName) as caught:
                made.queue(1, value)
            self.assertIs(caught.exception.name, value)

    def test_teams(self):
        made = system()
        self.assertEqual((made.team("top"), made.team("low")), ((0, 0, False), (0, 0, False)))
        for value in anythings() + ["cell", "slot", True, 1, 0, ("top",), None]:
            with self.assertRaises(UnknownName) as caught:
                made.team(value)
            self.assertIs(caught.exception.name, value)

    def test_told_lists_are_new(self):
        made = system()
        made.put_on_road(0, 1, M1)
        made.put_in_queue(1, "main", M1)
        made.put_link(1, 2)
        made.put_watch(1, 2)
        made.put_said(1, M1)
        made.put_row((("kill", 1, "bad"), ()))
        same = made.twin()
        for ask in (made.editions, made.changes, made.addresses, lambda: made.road(0), lambda: made.queue(1, "main"),
                    made.links, made.watches, made.said, made.supply, made.log, lambda: made.next_addresses(3)):
            told = ask()
            self.assertIsInstance(told, list)
            self.assertTrue(told)
            told.append(7)
            self.assertEqual(told[:-1], ask())
        self.assertEqual(made, same)

    def test_addresses_of_new_actors(self):
        made = system()
        self.assertEqual(made.next_addresses(6), [20, 4, 6, 7, 9, 10])
        self.assertEqual([made.next_addresses(k) for k in range(4)], [[], [20], [20, 4], [20, 4, 6]])
        birth = (1, "box", ("small", "red"), (3,))
        for address in (20, 4, 6, 7, 9):
            self.assertEqual(made.next_address(), address)
            self.assertEqual(made.born(birth), address)
            self.assertEqual((made.birth(address), made.lives(address), made.edition(address)), (birth, 1, 1))
        self.assertEqual(made.supply(), [])
        made.put_out(6, "bad")
        self.assertEqual(made.next_address(), 10)
        self.assertEqual(lone().next_addresses(3), [4, 6, 7])
        empty = System(MEANING, [Edition(FIRST.book(), [], [], ())], [], [], [])
        self.assertEqual((empty.next_address(), empty.next_addresses(2)), (1, [1, 2]))
        self.assertEqual(lone(supply=[6]).next_addresses(3), [6, 4, 7])

    def test_place(self):
        made = system()
        same = made.twin()
        for state in ((IDLE, (77,)), (("kid", "only", ()), ()), (("cell", "busy", ()), (0, 10 ** 25))):
            self.assertIsNone(made.place(3, state))
            self.assertEqual(made.state(3), state)
            self.assertEqual((made.edition(3), made.birth(3), made.lives(3), made.log()), (0, (0, "kid", (), ()), 1, []))
        made.place(3, same.state(3))
        self.assertEqual(made, same)
        for state in [(("box", "rest", ("red",)), (1,)), (IDLE, [5]), (IDLE, (True,)), (IDLE, (-1,)), (IDLE, (5, 6)),
                      (list(IDLE), (5,)), (IDLE,), [IDLE, (5,)], (("cell", "idle", ["green"]), (5,)), True,
                      IDLE] + anythings():
            with self.assertRaises(BadSystem) as caught:
                made.place(3, state)
            self.assertEqual(caught.exception.word, "state")
        made.put_out(3, "ended")
        with self.assertRaises(NoActor):
            made.place(3, same.state(3))


CHANGES = {
    "born": (lambda s: s.born((0, "kid", (), ())), 20),
    "renew": (lambda s: s.renew(1, (0, "cell", ("red",), (11,))), None),
    "renew_out": (lambda s: s.renew(2, (2, "kid", (), ())), None),
    "put_state": (lambda s: s.put_state(1, 0, (IDLE, (11,))), None),
    "put_edition": (lambda s: s.put_state(3, 1, (("kid", "only", ()), ())), None),
    "put_out": (lambda s: s.put_out(1, "bad"), None),
    "put_on_road": (lambda s: s.put_on_road(0, 3, M1), None),
    "put_in_queue": (lambda s: s.put_in_queue(1, "side", M2), None),
    "put_link": (lambda s: s.put_link(1, 5), None),
    "put_watch": (lambda s: s.put_watch(1, 5), None),
    "put_said": (lambda s: s.put_said(0, M1), None),
    "take_off_road": (lambda s: s.take_off_road(1, 3), M2),
    "take_out_of_queue": (lambda s: s.take_out_of_queue(1, "main"), M1),
    "empty_queues": (lambda s: s.empty_queues(1), [M1, M2, M3, M3]),
    "take_away": (lambda s: s.take_away(3), None),
    "set_team": (lambda s: s.set_team("low", 1, 2, True), None),
    "place": (lambda s: s.place(1, (IDLE, (3,))), None),
}


def standing(s):
    """All that can be asked of a system but its log, each thing by a name."""
    told = {"supply": s.supply(), "links": s.links(), "watches": s.watches(), "said": s.said(),
            "addresses": s.addresses(), "road0": s.road(0), "next": s.next_addresses(9)}
    for k in s.addresses():
        told[f"birth{k}"] = s.birth(k)
        told[f"lives{k}"] = s.lives(k)
        told[f"now{k}"] = (s.edition(k), s.state(k)) if s.is_in(k) else s.why(k)
        told[f"road{k}"] = s.road(k)
        for port in ("main", "side", "gone"):
            told[f"queue{k}{port}"] = s.queue(k, port)
    for name in ("top", "low"):
        told[name] = s.team(name)
    return told


def busy():
    """A system in which nothing is empty."""
    made = system()
    made.put_out(2, "bad")
    made.put_on_road(1, 5, M1)
    made.put_on_road(1, 3, M2)
    made.put_on_road(1, 3, M1)
    made.put_on_road(2, 0, M1)
    made.put_in_queue(1, "gone", M3)
    made.put_in_queue(1, "main", M1)
    made.put_in_queue(1, "main", M2)
    made.put_in_queue(1, "gone", M3)
    made.put_in_queue(3, "side", M1)
    for one, other in ((1, 3), (3, 3), (8, 1), (3, 0), (1, 3)):
        made.put_link(one, other)
        made.put_watch(other or 5, one)
    made.put_said(1, M2)
    made.set_team("top", 1, 1, False)
    made.put_row((("kill", 2, "bad"), ()))
    return made


class Changing(unittest.TestCase):
    """Each method for later stages: what it changes, what it returns, and that all else stays."""

    EXPECTED = {
        "born": {"supply": [4], "next": [4, 6, 7, 9, 10, 11, 12, 13, 14], "addresses": [1, 2, 3, 5, 8, 20],
                 "birth20": (0, "kid", (), ()), "lives20": 1, "now20": (0, (("kid", "only", ()), ())), "road20": [],
                 "queue20main": [], "queue20side": [], "queue20gone": []},
        "renew": {"lives1": 2},
        "renew_out": {"lives2": 2, "birth2": (2, "kid", (), ()), "now2": (2, (("kid", "only", ()), ()))},
        "put_state": {"now1": (0, (IDLE, (11,)))},
        "put_edition": {"now3": (1, (("kid", "only", ()), ()))},
        "put_out": {"now1": "bad"},
        "put_on_road": {"road0": [(3, M1)]},
        "put_in_queue": {"queue1side": [M2]},
        "put_link": {"links": [(1, 3), (3, 3), (8, 1), (3, 0), (1, 3), (1, 5)]},
        "put_watch": {"watches": [(3, 1), (3, 3), (1, 8), (5, 3), (3, 1), (1, 5)]},
        "put_said": {"said": [(1, M2), (0, M1)]},
        "take_off_road": {"road1": [(5, M1), (3, M1)]},
        "take_out_of_queue": {"queue1main": [M2]},
        "empty_queues": {"queue1main": [], "queue1gone": []},
        "take_away": {"links": [(8, 1)], "watches": [(1, 8)]},
        "set_team": {"low": (1, 2, True)},
        "place": {"now1": (0, (IDLE, (3,)))},
    }

    def test_each(self):
        for name, (call, told) in CHANGES.items():
            made, before = busy(), standing(busy())
            self.assertEqual(call(made), told, name)
            self.assertEqual(standing(made), {**before, **self.EXPECTED[name]}, name)
            self.assertEqual(made.log(), busy().log(), name)

    def test_put_row(self):
        made = busy()
        row = (("post", 1, M1), ())
        self.assertIsNone(made.put_row(row))
        self.assertEqual(made.log(), busy().log() + [row])
        self.assertEqual(standing(made), standing(busy()))
        self.assertEqual(made, busy())

    def test_renew(self):
        """Who is renewed begins in the edition of the birth; road, queues, links and watches stay."""
        made = busy()
        made.renew(1, (1, "box", ("big", "green"), (3,)))
        self.assertEqual((made.edition(1), made.state(1), made.lives(1)), (1, (("box", "rest", ("green",)), (103,)), 2))
        made.put_out(1, "closed")
        made.renew(1, (0, "cell", ("green",), (3,)))
        self.assertEqual((made.edition(1), made.state(1), made.lives(1)), (0, (("cell", "busy", ()), (3, 101)), 3))
        with self.assertRaises(NoActor):
            made.why(1)
        for name in ("road1", "queue1main", "queue1gone", "links", "watches"):
            self.assertEqual(standing(made)[name], standing(busy())[name])

    def test_heeds(self):
        made = system()
        self.assertEqual([made.heeds(k) for k in (1, 2, 3, 8)], [True, False, False, True])
        made.put_state(2, 1, (("box", "work", ()), (1,)))
        made.put_state(1, 2, (("box", "rest", ("red",)), (1,)))
        self.assertEqual([made.heeds(k) for k in (1, 2)], [False, True])

    def test_queues_in_order_of_ports(self):
        made = system()
        for port, message in (("gone", M3), ("side", M2), ("main", M1), ("side", M1), ("main", M3)):
            made.put_in_queue(3, port, message)
        made.put_in_queue(1, "main", M2)
        self.assertEqual(made.empty_queues(3), [M1, M3, M2, M1, M3])
        self.assertEqual(made.empty_queues(3), [])
        self.assertEqual(made.queue(1, "main"), [M2])

    def test_a_chain_of_one_edition(self):
        one = lone()
        one.put_in_queue(1, "gone", M3)
        self.assertEqual((one.queue(1, "gone"), one.empty_queues(1), one.queue(1, "gone")), ([M3], [M3], []))
        self.assertEqual((one.heeds(1), one.team("low"), one.beginning()), (True, (0, 0, False), lone()))

    def test_off_a_road(self):
        made = system()
        for receiver, message in ((1, M1), (0, M2), (1, M3), (0, M1)):
            made.put_on_road(0, receiver, message)
        self.assertEqual(made.take_off_road(0, 1), M1)
        self.assertEqual(made.take_off_road(0, 0), M2)
        self.assertEqual(made.take_off_road(0, 1), M3)
        self.assertEqual(made.road(0), [(0, M1)])


class Equality(unittest.TestCase):
    def test_unequal_after_each_change(self):
        for name, (call, _) in CHANGES.items():
            one, other = busy(), busy()
            self.assertEqual(one, other)
            call(one)
            self.assertNotEqual(one, other, name)
            self.assertNotEqual(other, one, name)
            call(other)
            self.assertEqual(one, other, name)

    def test_twin_goes_its_own_way(self):
        for name, (call, _) in CHANGES.items():
            one = busy()
            other = one.twin()
            self.assertEqual(other, one)
            self.assertEqual((other.log(), other.beginning()), (one.log(), one.beginning()))
            call(other)
            other.put_row((("kill", 1, "bad"), ()))
            self.assertEqual(standing(one), standing(busy()), name)
            self.assertEqual(one.log(), busy().log())
            one, other = busy(), busy().twin()
            twin = other.twin()
            call(other)
            self.assertEqual(standing(twin), standing(one), name)

    def test_by_what_stands_there(self):
        """How it came does not count: a road or a queue that is empty again is as one that never was used."""
        one = system()
        one.put_on_road(1, 2, M1)
        one.take_off_road(1, 2)
        one.put_in_queue(1, "main", M1)
        one.take_out_of_queue(1, "main")
        one.put_in_queue(1, "side", M1)
        one.empty_queues(1)
        one.put_link(1, 2)
        one.put_watch(1, 2)
        one.take_away(2)
        one.set_team("top", 1, 1, True)
        one.set_team("top", 0, 0, False)
        one.put_row((("shift", "top"), ()))
        self.assertEqual(one, system())
        other = system(supply=())
        self.assertNotEqual(one, other)
        self.assertEqual(system(supply=[8], actors=ACTORS[:4]).born(ACTORS[4][1:]), 8)
        other = system(supply=[8], actors=ACTORS[:4])
        other.born(ACTORS[4][1:])
        self.assertEqual(other, system(supply=()))
        self.assertNotEqual(other.beginning(), system(supply=()).beginning())

        one, other = system(), system()
        one.put_out(1, "bad")
        for each in (one, other):
            each.renew(1, (0, "kid", (), ()))
        self.assertEqual(one, other)

    def test_twin_of_all_that_can_differ_from_the_beginning(self):
        one = system()
        one.renew(1, (1, "kid", (), ()))
        one.born((0, "kid", (), ()))
        one.put_state(5, 1, (("kid", "only", ()), ()))
        one.put_out(3, "worse")
        other = one.twin()
        self.assertEqual(other, one)
        self.assertEqual(standing(other), standing(one))
        other.renew(3, (0, "kid", (), ()))
        other.born((0, "kid", (), ()))
        self.assertEqual((one.why(3), one.lives(3), one.supply(), one.addresses()), (
            "worse", 1, [4], [1, 2, 3, 5, 8, 20]))

    def test_order_counts(self):
        for put in (lambda s, k: s.put_link(1, k), lambda s, k: s.put_watch(1, k), lambda s, k: s.put_on_road(0, k, M1),
                    lambda s, k: s.put_said(k, M1), lambda s, k: s.put_in_queue(1, "main", M1[:3] + ((k,),))):
            one, other = system(), system()
            for k in (1, 2):
                put(one, k)
                put(other, 3 - k)
            self.assertNotEqual(one, other)

    def test_other_chains_and_meanings(self):
        self.assertNotEqual(System(Meaning({}), [FIRST], [], [], ACTORS), lone())
        empty = Edition(FIRST.book(), [], [], ())
        self.assertNotEqual(System(Meaning({}), [empty], [], [], []), System(MEANING, [empty], [], [], []))
        self.assertNotEqual(System(MEANING, [FIRST, SECOND], [TO_SECOND], [], ACTORS), lone())
        self.assertNotEqual(
            System(MEANING, [FIRST, SECOND], [TO_SECOND.with_rows([])], [], ACTORS),
            System(MEANING, [FIRST, SECOND], [TO_SECOND], [], ACTORS))
        rows = TO_SECOND.rows()
        self.assertEqual(
            System(MEANING, [FIRST, SECOND], [TO_SECOND.with_rows(rows[::-1])], [], ACTORS),
            System(MEANING, [FIRST, SECOND], [TO_SECOND], [], ACTORS))
        slotless = [Edition(FIRST.book(), kinds, [], ()) for kinds in ([], FIRST.kinds()[:1])]
        self.assertNotEqual(*[System(MEANING, [edition], [], [], []) for edition in slotless])

    def test_anything(self):
        for value in anythings() + [True, 0, None, ACTORS, old_edition(), new_edition()]:
            self.assertFalse(system() == value)
            self.assertTrue(system() != value)


if __name__ == "__main__":
    unittest.main()
