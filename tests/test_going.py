"""movedactors.going: settling, whom an actor sweeps along, chains and walls."""

import itertools
import random
import unittest

from movedactors.editions import Edition
from movedactors.errors import NoActor, UnknownName
from movedactors.going import judge_swept, settled, swept, swept_paper
from movedactors.systems import System
from plain_going import KINDS, ROLE, WHYS, Plain, random_chain, random_system, tree_slots
from samples import anythings, of
from world import BOOK, MEANING

BIG, SMALL = ("big",), ("small",)


def slot(address, words=SMALL, term=of("nil")):
    return ("slot", address, "r", words, (term,))


def team(name, way, limit, *children):
    return ("supervisor", name, way, limit, children)


def running(tree=(), more=(), awake=(), supply=()):
    """A system of one edition. The actors of awake heed, all others are deaf."""
    edition = Edition(BOOK, KINDS, [ROLE], tree)
    addresses = [part[1] for part in tree_slots(tree)] + list(more)
    rows = [(a, 0, "r", BIG if a in awake else SMALL, (a,)) for a in addresses]
    return System(MEANING, [edition], [], supply, rows)


def gone(x, why="bad", number=0):
    return (number, "gone", (why,), (x,))


BIRTH = (0, "r", SMALL, (7,))


class Example(unittest.TestCase):
    def test_of_the_document(self):
        """S5.6, event by event."""
        tree = (team("s1", "one", 1, team("s2", "one", 0, slot(1), slot(2)), slot(3)),)
        one = running(tree)
        self.assertEqual(settled(one, 1, "bad"), (
            ("out", 1, "bad"), ("closed", "s2"), ("out", 2, "closed"), ("used", "s1", 1),
            ("renewed", 1, BIRTH), ("renewed", 2, BIRTH)))
        self.assertEqual((one.team("s1"), one.team("s2")), ((0, 1, False), (0, 0, False)))
        self.assertEqual([one.lives(k) for k in (1, 2, 3)], [2, 2, 1])
        self.assertEqual(settled(one, 2, "worse"), (
            ("out", 2, "worse"), ("closed", "s2"), ("out", 1, "closed"), ("closed", "s1"), ("out", 3, "closed")))
        self.assertEqual([one.team(name) for name in ("s1", "s2")], [(0, 1, True), (0, 0, True)])
        self.assertEqual([one.why(k) for k in (1, 2, 3)], ["closed", "worse", "closed"])


class Leaving(unittest.TestCase):
    def test_links_and_watches(self):
        """Twice, to oneself, to nobody, to one that is out; heeding ones are told, deaf ones have to go."""
        one = running(more=(1, 2, 3, 4, 5), awake=(2, 4))
        one.put_out(5, "bad")
        for pair in ((1, 1), (2, 1), (1, 3), (1, 2), (1, 0), (1, 99), (1, 5), (5, 1), (3, 1), (4, 2)):
            one.put_link(*pair)
        for pair in ((4, 1), (1, 4), (3, 1), (1, 1), (4, 1), (5, 1), (2, 99)):
            one.put_watch(*pair)
        one.put_on_road(1, 0, gone(9))
        self.assertEqual(settled(one, 1, "bad"), (
            ("out", 1, "bad"),
            ("told", 2, gone(1)), ("told", 2, gone(1)),
            ("told", 4, gone(1)), ("told", 3, gone(1)), ("told", 4, gone(1)),
            ("out", 3, "bad")))
        self.assertEqual(one.road(1), [(0, gone(9))] + [(k, gone(1)) for k in (2, 2, 4, 3, 4)])
        self.assertEqual((one.links(), one.watches()), ([(4, 2)], [(2, 99)]))
        self.assertEqual((one.why(1), one.why(3), one.is_in(2), one.is_in(4)), ("bad", "bad", True, True))
        self.assertEqual(one.log(), [])

    def test_ended_does_not_reach_the_deaf_ones(self):
        one = running(more=(1, 2, 3), awake=(2,))
        for pair in ((1, 2), (1, 3), (3, 1)):
            one.put_link(*pair)
        one.put_watch(3, 1)
        self.assertEqual(settled(one, 1, "ended"), (
            ("out", 1, "ended"), ("told", 2, gone(1, "ended")), ("told", 3, gone(1, "ended"))))
        self.assertEqual((one.is_in(3), one.links(), one.watches()), (True, [], []))

    def test_the_number_of_the_edition_that_the_actor_had(self):
        chosen = random.Random(1)
        old, new, change = random_chain(chosen)
        rows = [(part[1], 0, "r", BIG, (1,)) for part in tree_slots(old.tree())]
        one = System(MEANING, [old, new], [change], [], rows + [(8, 1, "r", BIG, (1,)), (9, 0, "r", BIG, (1,))])
        one.put_watch(9, 8)
        one.put_watch(8, 9)
        twin = one.twin()
        self.assertEqual(settled(one, 8, "bad")[1], ("told", 9, gone(8, "bad", 1)))
        self.assertEqual(settled(twin, 9, "bad")[1], ("told", 8, gone(9, "bad", 0)))

    def test_waiting_in_order(self):
        """Who has to go goes in the order of the waiting list, each once, with the same why."""
        one = running(more=(1, 2, 3, 4, 5))
        for pair in ((1, 4), (2, 1), (4, 3), (2, 5), (4, 2), (3, 3), (1, 4)):
            one.put_link(*pair)
        self.assertEqual([event[1:] for event in settled(one, 1, "worse")], [(k, "worse") for k in (1, 4, 2, 3, 5)])

    def test_lost_messages(self):
        """By addresses, then by ports in the order of the book, then in the order of the queue."""
        one = running(more=(3, 1, 2), awake=(1,))
        one.put_link(3, 2)
        for address in (1, 2, 3):
            for k, port in enumerate(("gone", "side", "main", "side")):
                if (address, port) != (2, "main"):
                    one.put_in_queue(address, port, (0, "put", (), (10 * address + k,)))
        told = settled(one, 3, "bad")

        def put(k):
            return (0, "put", (), (k,))

        self.assertEqual(told[2:], (
            ("lost", 2, (put(21), put(23), put(20))), ("lost", 3, (put(32), put(31), put(33), put(30)))))
        self.assertEqual([len(one.queue(1, port)) for port in ("main", "side", "gone")], [1, 2, 1])
        self.assertEqual([one.queue(k, port) for k in (2, 3) for port in ("main", "side", "gone")], [[]] * 6)

    def test_queues_of_renewed_actors_stay(self):
        one = running((team("s", "one", 1, slot(1)),))
        one.put_in_queue(1, "main", (0, "put", (), (3,)))
        one.put_on_road(1, 5, (0, "put", (), (4,)))
        self.assertEqual(len(settled(one, 1, "bad")), 3)
        self.assertEqual((one.queue(1, "main"), one.road(1)), ([(0, "put", (), (3,))], [(5, (0, "put", (), (4,)))]))
        self.assertEqual(settled(one, 1, "bad")[-1], ("lost", 1, ((0, "put", (), (3,)),)))

    def test_errors_in_order(self):
        one = running(more=(1, 2))
        one.put_out(2, "bad")
        for address in anythings() + [True, 0, 2, 3, "1", (1,)]:
            for why in ("bad", "none", 7):
                with self.assertRaises(NoActor) as caught:
                    settled(one, address, why)
                self.assertIs(caught.exception.address, address)
        for why in anythings() + ["gone", "red", "why", True, 0, ("bad",)]:
            with self.assertRaises(UnknownName) as caught:
                settled(one, 1, why)
            self.assertIs(caught.exception.name, why)
        self.assertIs(one.is_in(1), True)


class Acting(unittest.TestCase):
    def test_ways(self):
        for way, renewed in (("one", [2]), ("all", [1, 2, 5, 3]), ("behind", [2, 5, 3])):
            one = running((team("s", way, 3, slot(1), slot(2), team("t", "one", 0, slot(5)), slot(3)),))
            one.set_team("t", 0, 2, False)
            one.put_link(3, 2)
            one.put_watch(1, 1)
            told = settled(one, 2, "bad")
            outs = [("out", 2, "bad"), ("out", 3, "bad")]
            more = [("used", "s", 2), ("renewed", 3, BIRTH)] if way == "one" else []
            self.assertEqual(list(told), outs + [("used", "s", 1)] + [("renewed", k, BIRTH) for k in renewed] + more)
            self.assertEqual(one.team("t"), (0, 2 if way == "one" else 0, False))
            self.assertEqual([one.lives(k) for k in (1, 2, 5, 3)], {
                "one": [1, 2, 1, 2], "all": [2, 2, 2, 2], "behind": [1, 2, 2, 2]}[way])
            self.assertEqual(one.watches(), [(1, 1)])

    def test_who_was_in_does_not_go_when_it_is_renewed(self):
        one = running((team("s", "all", 1, slot(1), slot(2)),), more=(8,), awake=(8,))
        one.put_link(8, 2)
        one.put_watch(8, 2)
        one.put_state(2, 0, (("r", "awake", ()), (55,)))
        one.put_in_queue(2, "main", (0, "put", (), (3,)))
        self.assertEqual(settled(one, 1, "bad"), (
            ("out", 1, "bad"), ("used", "s", 1), ("renewed", 1, BIRTH), ("renewed", 2, BIRTH)))
        self.assertEqual((one.links(), one.watches(), one.road(2)), ([(8, 2)], [(8, 2)], []))
        self.assertEqual((one.state(2), one.lives(2)), ((("r", "deaf", ()), (7,)), 2))
        self.assertEqual(one.queue(2, "main"), [(0, "put", (), (3,))])

    def test_ended_slots_are_not_renewed(self):
        one = running((team("s", "all", 2, slot(1), slot(2), slot(3)),))
        self.assertEqual(settled(one, 2, "ended"), (("out", 2, "ended"),))
        self.assertEqual(settled(one, 1, "bad"), (
            ("out", 1, "bad"), ("used", "s", 1), ("renewed", 1, BIRTH), ("renewed", 3, BIRTH)))
        self.assertEqual((one.why(2), one.lives(2)), ("ended", 1))

    def test_who_is_no_slot_is_not_renewed(self):
        one = running((team("s", "all", 2, slot(1)),), more=(4,))
        self.assertEqual(settled(one, 4, "bad"), (("out", 4, "bad"),))
        self.assertEqual(one.team("s"), (0, 0, False))

    def test_limits_that_are_used_up(self):
        """An outermost supervisor closes, and what goes beneath it then stays out."""
        one = running((team("s", "one", 2, slot(1), slot(2)),))
        for k in (1, 2):
            self.assertEqual(settled(one, 1, "bad"), (("out", 1, "bad"), ("used", "s", k), ("renewed", 1, BIRTH)))
        self.assertEqual(settled(one, 1, "bad"), (("out", 1, "bad"), ("closed", "s"), ("out", 2, "closed")))
        self.assertEqual(one.team("s"), (0, 2, True))
        one.renew(1, BIRTH)
        self.assertEqual(settled(one, 1, "bad"), (("out", 1, "bad"),))

    def test_closing_leads_upwards(self):
        """Supervisors that close, and their own ones that act; what is beneath is not closed by this."""
        tree = (team("a", "behind", 1, slot(1), team("b", "all", 0, slot(2), team("c", "one", 1, slot(3))), slot(4)),)
        one = running(tree, awake=(3,))
        one.put_link(3, 2)
        one.set_team("c", 0, 1, False)
        self.assertEqual(settled(one, 2, "bad"), (
            ("out", 2, "bad"), ("told", 3, gone(2)), ("closed", "b"), ("out", 3, "closed"), ("used", "a", 1),
            ("renewed", 2, BIRTH), ("renewed", 3, BIRTH), ("renewed", 4, BIRTH)))
        self.assertEqual([one.team(k) for k in "abc"], [(0, 1, False), (0, 0, False), (0, 0, False)])
        # The deepest one acts first; only then it is used up, and its own one closes.
        self.assertEqual(settled(one, 3, "bad"), (("out", 3, "bad"), ("used", "c", 1), ("renewed", 3, BIRTH)))
        self.assertEqual(settled(one, 3, "bad"), (
            ("out", 3, "bad"), ("closed", "c"), ("closed", "b"), ("out", 2, "closed"), ("closed", "a"),
            ("out", 1, "closed"), ("out", 4, "closed")))

    def test_a_closed_one_above(self):
        """Nothing is renewed beneath a closed supervisor, though the own one is open."""
        one = running((team("a", "one", 3, team("b", "one", 3, slot(1)), slot(2)),))
        one.set_team("a", 0, 0, True)
        self.assertEqual(settled(one, 1, "bad"), (("out", 1, "bad"),))
        self.assertEqual(one.team("b"), (0, 0, False))

    def test_editions_of_supervisors(self):
        """The way and the limit are those of its own edition, and the start that of the slot's own supervisor."""
        chosen = random.Random(2)
        old = Edition(BOOK, KINDS, [ROLE], (team("a", "one", 0, team("b", "one", 1, slot(1)), slot(2)),))
        new = Edition(BOOK, KINDS, [ROLE], (
            team("a", "all", 1, team("b", "one", 0, slot(1, BIG, of("up", of("nil")))), slot(2, BIG)),))
        change = random_chain(chosen)[2]
        change = type(change)(old, new, change.kinds(), change.roles(), [])
        one = System(MEANING, [old, new], [change], [], [(k, 1, "r", BIG, (k,)) for k in (1, 2)])
        one.set_team("a", 1, 0, False)
        twin = one.twin()
        self.assertEqual(settled(one, 2, "bad"), (
            ("out", 2, "bad"), ("used", "a", 1), ("renewed", 1, BIRTH), ("renewed", 2, (1, "r", BIG, (7,)))))
        self.assertEqual((one.team("a"), one.team("b"), one.edition(1)), ((1, 1, False), (0, 0, False), 0))
        twin.set_team("b", 1, 0, False)
        self.assertEqual(settled(twin, 1, "bad"), (
            ("out", 1, "bad"), ("closed", "b"), ("used", "a", 1), ("renewed", 1, (1, "r", BIG, (107,))),
            ("renewed", 2, (1, "r", BIG, (7,)))))

    def test_budgets(self):
        """S5.8: how often a slot goes, if its actor is the only one that goes by itself."""
        for limits in ((0,), (2,), (1, 2), (2, 0), (1, 1, 1), (3, 2, 1)):
            for way in ("one", "all", "behind"):
                tree = slot(1)
                for k, limit in enumerate(limits[::-1]):
                    tree = team(f"s{k}", way, limit, tree, slot(10 + k))
                one = running((tree,))
                product = 1
                for limit in limits:
                    product *= limit + 1
                for k in range(product):
                    told = settled(one, 1, ("bad", "closed")[k % 2])
                    self.assertEqual(("renewed", 1, BIRTH) in told, k < product - 1)
                self.assertIs(one.is_in(1), False)
                self.assertEqual(one.lives(1), product)

    def test_against_a_plain_settling(self):
        chosen = random.Random(7)
        acts = 0
        for _ in range(1500):
            one = random_system(chosen)
            inside = [k for k in one.addresses() if one.is_in(k)]
            for _ in range(4):
                if not inside:
                    break
                address, why = chosen.choice(inside), chosen.choice(WHYS)
                plain = Plain(one)
                before = one.twin()
                told = settled(one, address, why)
                self.assertEqual(told, plain.settle(address, why))
                self.assertEqual(Plain(one).standing(), plain.standing())
                self.check_what_stays(before, one, told)
                acts += sum(event[0] in ("used", "closed") for event in told)
                inside = [k for k in one.addresses() if one.is_in(k)]
        self.assertGreater(acts, 500)

    def check_what_stays(self, before, one, told):
        """S5.8: what neither goes nor is renewed keeps all; roads become longer; nobody uses more than its limit."""
        moved = [event[1] for event in told if event[0] in ("out", "renewed")]
        for k in one.addresses():
            self.assertEqual(one.road(k)[:len(before.road(k))], before.road(k))
            if k not in moved:
                self.assertEqual((one.is_in(k), one.birth(k), one.lives(k)), (
                    before.is_in(k), before.birth(k), before.lives(k)))
                if one.is_in(k):
                    self.assertEqual((one.state(k), one.edition(k)), (before.state(k), before.edition(k)))
                    self.assertEqual([one.queue(k, p) for p in ("main", "side", "gone")],
                                     [before.queue(k, p) for p in ("main", "side", "gone")])
        self.assertEqual((one.log(), one.said(), one.supply()), (before.log(), before.said(), before.supply()))


class Swept(unittest.TestCase):
    def linked(self, *pairs, awake=(), many=6):
        one = running(more=range(1, many + 1), awake=awake)
        for pair in pairs:
            one.put_link(*pair)
        return one

    def test_in_order(self):
        one = self.linked((1, 4), (2, 1), (4, 3), (2, 5), (4, 2), (3, 3), (1, 4), (6, 0), (6, 77))
        self.assertEqual(swept(one, 1), [4, 2, 3, 5])
        self.assertEqual(swept(one, 5), [2, 1, 4, 3])
        self.assertEqual(swept(one, 6), [])
        swept(one, 1).clear()
        self.assertEqual(len(swept(one, 1)), 4)

    def test_heeding_ones(self):
        """A heeding actor is not swept, but it sweeps."""
        one = self.linked((1, 2), (2, 3), (3, 4), awake=(2,))
        self.assertEqual((swept(one, 1), swept(one, 2), swept(one, 3)), ([], [1, 3, 4], [4]))
        self.assertEqual(swept_paper(one, 2, 4), ("chain", (2, 3, 4)))
        self.assertEqual(swept_paper(one, 1, 4), ("wall", (1,)))
        self.assertEqual(swept_paper(one, 4, 2), ("wall", (3, 4)))

    def test_those_that_are_out(self):
        one = self.linked((1, 2), (2, 3))
        one.put_out(2, "bad")
        self.assertEqual((swept(one, 1), swept_paper(one, 1, 3)), ([], ("wall", (1,))))

    def test_judge_chains(self):
        one = self.linked((1, 2), (3, 2), (3, 4), (1, 5), (5, 4), (4, 6), awake=(5,))
        self.assertIs(judge_swept(one, 1, 4, ("chain", (1, 2, 3, 4))), True)
        self.assertIs(judge_swept(one, 5, 4, ("chain", (5, 1, 2, 3, 4))), True)
        self.assertIs(judge_swept(one, 1, 2, ("chain", (1, 2))), True)
        for chain in ((1, 5, 4), (1, 2, 4), (1, 2, 3), (2, 3, 4), (1, 2, 3, 4, 6), (1, 2, 1, 2, 3, 4), (1, 2, 3, 2, 3, 4),
                      (), (4,), (1,), (1, 4), (True, 2, 3, 4), [1, 2, 3, 4], (1, 2, 3, 4, 4), (1, 2, 7, 4), (1, 2, "3", 4),
                      (1, 2, (3,), 4), "1234", None, (1, 2, None, 4)):
            self.assertIs(judge_swept(one, 1, 4, ("chain", chain)), False, chain)
        one.put_out(3, "bad")
        self.assertIs(judge_swept(one, 1, 4, ("chain", (1, 2, 3, 4))), False)

    def test_judge_walls(self):
        one = self.linked((1, 2), (2, 5), (5, 4), (3, 4), (1, 1), (1, 0), (2, 99), awake=(5,))
        self.assertIs(judge_swept(one, 1, 3, ("wall", (1, 2))), True)
        self.assertIs(judge_swept(one, 1, 3, ("wall", (1, 2, 6))), True)
        self.assertIs(judge_swept(one, 3, 1, ("wall", (3, 4))), True)
        self.assertIs(judge_swept(one, 3, 1, ("wall", (3, 4, 6))), True)
        for members in ((1,), (2,), (), (2, 1), (1, 2, 3), (1, 2, 2), [1, 2], (1, 2, 5), (1, 2, 99), (True, 2), (1, 2, "a"),
                        (0, 1, 2), None, (1, 2, (6,)), (1, (2,))):
            self.assertIs(judge_swept(one, 1, 3, ("wall", members)), False, members)
        one.put_out(6, "bad")
        self.assertIs(judge_swept(one, 1, 3, ("wall", (1, 2, 6))), False)

    def test_judge_anything(self):
        one = self.linked((1, 2))
        for paper in anythings() + [True, 0, (), ("chain",), ("wall", (1,), ()), ["chain", (1, 2)], ("Chain", (1, 2)),
                                    ("way", (1, 2)), (("chain",), (1, 2)), "chain", ((1, 2), "chain")]:
            self.assertIs(judge_swept(one, 1, 2, paper), False)
            self.assertIs(judge_swept(one, 1, 3, ("wall", (1, 2, paper))), False)
            for word in ("chain", "wall"):
                self.assertIs(judge_swept(one, 1, 2, (word, paper)), False)

    def test_errors_in_order(self):
        one = self.linked((1, 2))
        one.put_out(3, "bad")
        for address in anythings() + [True, 0, 3, 77]:
            for ask in (lambda: swept(one, address), lambda: swept_paper(one, address, address),
                        lambda: judge_swept(one, address, 77, 7), lambda: swept_paper(one, 1, address),
                        lambda: judge_swept(one, 1, address, 7)):
                with self.assertRaises(NoActor) as caught:
                    ask()
                self.assertIs(caught.exception.address, address)
        for ask in (lambda: swept_paper(one, 2, 2), lambda: judge_swept(one, 2, 2, ("chain", (2,)))):
            with self.assertRaises(NoActor) as caught:
                ask()
            self.assertEqual(caught.exception.address, 2)

    def test_chosen(self):
        """Who is swept goes before any supervisor acts; papers are right, and no other ones are."""
        chosen = random.Random(9)
        for _ in range(120):
            one = random_system(chosen, 14)
            same = one.twin()
            inside = [k for k in one.addresses() if one.is_in(k)]
            for address in inside:
                told = settled(one.twin(), address, "bad")
                first = list(itertools.takewhile(lambda event: event[0] in ("out", "told"), told))
                self.assertEqual([address] + swept(one, address), [event[1] for event in first if event[0] == "out"])
                for other in inside:
                    if other == address:
                        continue
                    paper = swept_paper(one, address, other)
                    self.assertEqual(paper[0] == "chain", other in swept(one, address))
                    self.assertIs(judge_swept(one, address, other, paper), True)
                    self.assertIs(judge_swept(one, address, other, (
                        {"chain": "wall", "wall": "chain"}[paper[0]], paper[1])), False)
            self.assertEqual(one, same)
            self.assertEqual(one.log(), [])

    def test_all_papers_of_small_systems(self):
        """Each tuple of addresses is judged as S5.7 tells it."""
        chosen = random.Random(10)
        for _ in range(25):
            one = self.linked(*[(chosen.randrange(1, 5), chosen.randrange(1, 5)) for _ in range(3)],
                awake=chosen.sample((1, 2, 3, 4), 2), many=4)
            joined = one.links() + [(b, a) for a, b in one.links()]
            for many in range(5):
                for members in itertools.permutations((1, 2, 3, 4), many):
                    chain = members[:1] == (1,) and members[-1:] == (2,)
                    chain = chain and all(pair in joined for pair in zip(members, members[1:]))
                    chain = chain and not any(one.heeds(k) for k in members[1:])
                    self.assertIs(judge_swept(one, 1, 2, ("chain", members)), chain)
                    wall = list(members) == sorted(members) and 1 in members and 2 not in members
                    wall = wall and all(b in members or one.heeds(b) for a, b in joined if a in members)
                    self.assertIs(judge_swept(one, 1, 2, ("wall", members)), wall)


if __name__ == "__main__":
    unittest.main()
