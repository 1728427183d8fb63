"""movedactors.views: raised logs, views, systems that are seen alike, and twins."""

import random
import unittest

from movedactors.choices import can, make, make_all, open_choices
from movedactors.errors import NotNow
from movedactors.reading import raised, raised_birth
from movedactors.systems import System
from movedactors.views import raised_log, raised_row, seen_alike, twin_begun, twin_of, view
from movedactors.reader import read_change, read_edition
from randoms import random_rows, random_run, renamed_chain, running
from test_systems import standing
from world import ACTORS, BOOK, FIRST, MEANING, SECOND, TO_SECOND, lone, system

PUT = (0, "put", ("red",), (9,))
PUT2 = (2, "put", ("red",), (9, 7))
ASK = (0, "ask", (), (6,))
ASK2 = (2, "ask", (), (106,))
GONE = (0, "gone", ("bad",), (1,))

# A change that is closed though the registers of the new edition hold something else: up(x) for x.
PLAIN = read_edition(BOOK, """
    edition {
        kind put main (c color) (a);
        role cell {
            mode idle (r color) (x) [main, gone] heeds;
            start (p color) (i) { go idle ($p) (i); }
            on idle put if c red { make k cell ($r) (up(x)); link k; send a put ($r) (up(x)); go idle ($r) (pair(a, k)); }
                else { send up(x) put (red) (a); fail bad; }
            on idle gone { watch who; go idle (red) (x); }
        }
        supervisor top one 1 { slot 1 cell (red) (nil()); slot 2 cell (green) (up(nil())); }
    }
""")
CLEVER = read_edition(BOOK, """
    edition {
        kind set main (b size, c color) (a, up);
        role unit {
            mode reds () (y) [main, gone] heeds;
            mode greens () (y) [main, gone] heeds;
            start (p color) (j) if p red { go reds () (j); } else { go greens () (j); }
            on reds set if c red {
                make k unit (red) (up(y)); link k; send a set (small, red) (y, up(y)); go reds () (up(pair(a, k)));
            } else { send y set (small, red) (a, up(a)); fail bad; }
            on reds gone { watch who; go reds () (y); }
            on greens set if c red {
                make k unit (green) (up(y)); link k; send a set (small, green) (y, up(y)); go greens () (up(pair(a, k)));
            } else { send y set (small, red) (a, up(a)); fail bad; }
            on greens gone { watch who; go reds () (y); }
        }
        supervisor top one 1 { slot 1 unit (red) (up(nil())); slot 2 unit (green) (up(up(nil()))); }
    }
""")
TO_CLEVER = read_change(PLAIN, CLEVER, """
    change {
        kind put to set (small, $c) (a, up(a));
        role cell to unit ($p) (up(i));
        row cell idle (red) to reds () (up(x));
        row cell idle (green) to greens () (up(x));
    }
""")


class Rows(unittest.TestCase):
    def test_each_choice(self):
        one = system()
        for choice in (("bring", 0, 1), ("take", 1, "main"), ("kill", 1, "bad"), ("link", 1, 2), ("watch", 1, 2)):
            self.assertEqual(raised_row(one, (choice, ())), (choice, ()))
        self.assertEqual(raised_row(one, (("post", 1, PUT), ())), (("post", 1, PUT2), ()))
        self.assertIsNone(raised_row(one, (("move", 1), (("moved", 1, ()),))))
        self.assertIsNone(raised_row(one, (("shift", "top"), ())))

    def test_each_event(self):
        one = system()
        birth, birth2 = (0, "cell", ("red",), (3,)), (2, "box", ("red",), (103, 0))
        for event, told in (
            (("said", PUT), ("said", PUT2)), (("queued", "main", PUT), ("queued", "main", PUT2)),
            (("lost", 7, (PUT, ASK)), ("lost", 7, (PUT2, ASK2))), (("read", ASK), ("read", ASK2)),
            (("made", 4, birth), ("made", 4, birth2)), (("linked", 4), ("linked", 4)), (("watched", 4), ("watched", 4)),
            (("sent", 5, PUT), ("sent", 5, PUT2)), (("out", 4, "bad"), ("out", 4, "bad")),
            (("told", 4, GONE), ("told", 4, (2,) + GONE[1:])), (("used", "top", 1), ("used", "top", 1)),
            (("closed", "top"), ("closed", "top")), (("renewed", 4, birth), ("renewed", 4, birth2)),
        ):
            row = (("take", 1, "main"), (event, ("went", (("cell", "idle", ("red",)), (1,))), event))
            self.assertEqual(raised_row(one, row), (row[0], (told, told)))

    def test_logs(self):
        one = system()
        make_all(one, [("post", 1, PUT), ("shift", "top"), ("bring", 0, 1), ("move", 2), ("take", 1, "main")])
        told = raised_log(one)
        self.assertEqual([row[0] for row in told], [("post", 1, PUT2), ("bring", 0, 1), ("take", 1, "main")])
        self.assertEqual(told[1][1], (("queued", "main", PUT2),))
        self.assertEqual(told[2][1][:2], (("read", PUT2), ("made", 20, (2, "box", ("red",), (109, 0)))))
        self.assertEqual([event[0] for event in told[2][1]], [
            "read", "made", "made", "linked", "linked", "watched", "watched", "watched", "sent", "sent"])
        self.assertEqual(told, [raised_row(one, row) for row in one.log() if row[0][0] not in ("move", "shift")])
        told.clear()
        self.assertEqual(len(raised_log(one)), 3)


class Views(unittest.TestCase):
    def test_part_by_part(self):
        one = system()
        one.put_state(5, 2, (("kid", "only", ()), ()))
        one.renew(3, (1, "kid", (), ()))
        one.put_out(2, "closed")
        for sender, receiver, message in ((8, 1, PUT), (8, 0, ASK), (0, 77, PUT), (2, 3, GONE)):
            one.put_on_road(sender, receiver, message)
        for address, port, message in ((1, "gone", GONE), (1, "main", PUT), (1, "main", PUT), (3, "side", ASK)):
            one.put_in_queue(address, port, message)
        for pair in ((3, 1), (1, 3), (3, 1)):
            one.put_link(*pair)
            one.put_watch(pair[1], 0)
        one.put_said(8, PUT)
        one.put_said(1, ASK)
        one.set_team("low", 2, 1, True)
        kid = (2, "kid", (), ())
        gone = (2,) + GONE[1:]
        self.assertEqual(view(one), (
            ((1, (2, "box", ("red",), (111, 0)), 1, ("in", None)),
             (2, (2, "box", ("green",), (112, 0)), 1, ("out", "closed")),
             (3, kid, 2, ("in", None)),
             (5, kid, 1, ("in", (("kid", "only", ()), ()))),
             (8, (2, "box", ("red",), (101, 0)), 1, ("in", None))),
            ((0, ((77, PUT2),)), (2, ((3, gone),)), (8, ((1, PUT2), (0, ASK2)))),
            ((1, "main", (PUT2, PUT2)), (1, "gone", (gone,)), (3, "side", (ASK2,))),
            ((3, 1), (1, 3), (3, 1)),
            ((1, 0), (3, 0), (1, 0)),
            ((8, PUT2), (1, ASK2)),
            (("top", 0, False), ("low", 1, True)),
            (20, 4),
        ))

    def test_states_only_in_the_newest_edition(self):
        told = view(lone())
        self.assertEqual([row[3] for row in told[0]], [("in", lone().state(k)) for k in (1, 2, 3, 5, 8)])
        self.assertEqual(told[1:], ((), (), (), (), (), (("top", 0, False), ("low", 0, False)), ()))

    def test_nothing_changes(self):
        one = system()
        make_all(one, [("post", 1, PUT), ("bring", 0, 1), ("take", 1, "main"), ("kill", 2, "bad")])
        before, log = standing(one), one.log()
        view(one)
        raised_log(one)
        twin_begun(one)
        self.assertTrue(seen_alike(one, one.twin()))
        self.assertEqual((standing(one), one.log()), (before, log))


class Alike(unittest.TestCase):
    def pair(self, first=2, second=2):
        rows = (ACTORS[0][:1] + (first,) + ("kid", (), ()),) + ACTORS[1:]
        others = (ACTORS[0][:1] + (second,) + ("kid", (), ()),) + ACTORS[1:]
        return system(actors=rows), system(actors=others)

    def test_states(self):
        """A state counts only if both views have it."""
        box = (("box", "rest", ("red",)), (3,))
        for first, second, is_alike in ((2, 2, False), (2, 0, True), (0, 2, True), (1, 1, True), (1, 2, True)):
            one, other = self.pair(first, second)
            self.assertIs(seen_alike(one, other), True)
            if first == 2:
                one.place(1, box)
            elif second == 2:
                other.place(1, box)
            self.assertIs(seen_alike(one, other), is_alike)
            self.assertIs(seen_alike(other, one), is_alike)

    def test_all_else(self):
        for change in (
            lambda s: s.put_on_road(0, 1, PUT), lambda s: s.put_in_queue(1, "main", PUT), lambda s: s.put_link(1, 1),
            lambda s: s.put_watch(1, 1), lambda s: s.put_said(1, PUT), lambda s: s.set_team("low", 0, 1, False),
            lambda s: s.set_team("low", 0, 0, True), lambda s: s.put_out(1, "bad"), lambda s: s.born((2, "kid", (), ())),
            lambda s: s.renew(1, (2, "kid", (), ())), lambda s: s.renew(1, (2, "box", ("red",), (1, 2))),
        ):
            one, other = self.pair(2, 1)
            change(one)
            self.assertIs(seen_alike(one, other), False)
            self.assertIs(seen_alike(other, one), False)
            change(other)
            self.assertIs(seen_alike(one, other), True)
        one, other = self.pair()
        one.put_out(1, "bad")
        other.put_out(1, "worse")
        self.assertIs(seen_alike(one, other), False)
        self.assertIs(seen_alike(system(), system(supply=(20,))), False)
        self.assertIs(seen_alike(system(), system(actors=ACTORS[:4])), False)

    def test_editions_do_not_count(self):
        """Messages and births are raised, and the numbers of supervisors are not seen."""
        one, other = system(), system(first=1)
        one.put_on_road(0, 1, PUT)
        other.put_on_road(0, 1, PUT2)
        self.assertIs(seen_alike(one, other), True)


class Twins(unittest.TestCase):
    def test_begun(self):
        one = system(actors=ACTORS[:4] + ((8, 1, "box", ("big", "red"), (4,), (("box", "work", ()), (9,))),))
        make_all(one, [("post", 1, PUT), ("kill", 1, "bad"), ("shift", "low")])
        one.born((0, "kid", (), ()))
        twin = twin_begun(one)
        self.assertEqual((twin.addresses(), twin.supply(), twin.log()), ([1, 2, 3, 5, 8], [20, 4], []))
        for k in twin.addresses():
            birth = raised_birth(one, one.beginning().birth(k), 2)
            self.assertEqual((twin.birth(k), twin.edition(k), twin.lives(k)), (birth, 2, 1))
        self.assertEqual(twin.state(8), (("box", "rest", ("red",)), (MEANING.apply("pair", (4, 104)),)))
        self.assertEqual((twin.team("top"), twin.team("low")), ((2, 0, False), (2, 0, False)))
        self.assertEqual((twin.meaning(), twin.editions(), twin.changes()), (one.meaning(), one.editions(),
            one.changes()))
        self.assertEqual(twin.beginning(), twin)

    def test_not_now(self):
        """The twin of a system whose change is not closed may not be able to do the same."""
        one = system()
        make_all(one, [("post", 1, PUT), ("bring", 0, 1), ("take", 1, "main"), ("bring", 1, 11)])
        with self.assertRaises(NotNow):
            twin_of(one)
        other = system()
        make_all(other, [("post", 1, PUT), ("bring", 0, 1), ("shift", "low"), ("move", 2)])
        twin = twin_of(other)
        self.assertEqual((twin.log(), twin.queue(1, "main")), ([
            (("post", 1, PUT2), ()), (("bring", 0, 1), (("queued", "main", PUT2),))], [PUT2]))

    def check(self, one):
        """S6.6, for a system of closed changes."""
        twin = twin_of(one)
        self.assertEqual(raised_log(one), raised_log(twin))
        self.assertEqual([row[0] for row in twin.log()], [row[0] for row in raised_log(one)])
        self.assertIs(seen_alike(one, twin), True)
        self.assertIs(seen_alike(twin, one), True)

    def test_closed_changes(self):
        chosen = random.Random(61)
        events = {}
        for k in range(60):
            one = running(chosen, 3 + k % 2, first=0)
            random_run(chosen, one, 40, make, open_choices, can)
            self.check(one)
            events.update({event[0]: True for _, told in one.log() for event in told})
        self.assertEqual(set(events), {
            "said", "queued", "lost", "read", "made", "linked", "watched", "sent", "went", "out", "told", "used",
            "closed", "renewed", "moved"})

    def test_a_closed_change_of_registers(self):
        chosen = random.Random(62)
        moved = 0
        for _ in range(40):
            rows = [(k, chosen.randrange(2), None, (chosen.choice(("red", "green")),), (chosen.randrange(9),))
                    for k in (1, 2, 7, 8)]
            rows = [row[:2] + (("cell", "unit")[row[1]],) + row[3:] for row in rows]
            one = System(MEANING, [PLAIN, CLEVER], [TO_CLEVER], [30], rows)
            random_run(chosen, one, 40, make, open_choices, can)
            moved += sum(row[0][0] == "move" for row in one.log())
            self.check(one)
        self.assertGreater(moved, 50)

    def test_changes_that_are_not_closed(self):
        """Nothing is promised there; for these the twin parts from the system in some runs."""
        chosen = random.Random(63)
        parted = 0
        for _ in range(30):
            one = System(MEANING, [FIRST, SECOND], [TO_SECOND], [30], random_rows(chosen, [FIRST, SECOND]))
            random_run(chosen, one, 30, make, open_choices, can)
            try:
                twin = twin_of(one)
            except NotNow:
                parted += 1
                continue
            parted += raised_log(one) != raised_log(twin) or not seen_alike(one, twin)
        self.assertGreater(parted, 10)

    def test_raised_in_one_step(self):
        chosen = random.Random(64)
        editions, changes = renamed_chain(chosen, 4)
        one = System(MEANING, editions, changes, [], random_rows(chosen, editions))
        random_run(chosen, one, 30, make, open_choices, can)
        for row in one.log():
            if row[0][0] == "post":
                self.assertEqual(raised_row(one, row)[0], row[0][:2] + (raised(one, row[0][2], 3),))


if __name__ == "__main__":
    unittest.main()
