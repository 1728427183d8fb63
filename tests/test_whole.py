"""The whole program: closed changes, composed and greatest ones, systems amid them beside their twins."""

import random
import unittest

from movedactors.alike import is_closed, part_trees
from movedactors.chains import composed, turned
from movedactors.choices import can, make, make_all, open_choices
from movedactors.closing import closing, greatest_change
from movedactors.converse import part_change
from movedactors.derived import derived, met
from movedactors.endings import endless, weights
from movedactors.joint import Joint
from movedactors.obligations import decide_role, decide_row, whole_paper
from movedactors.printer import change_text
from movedactors.raising import changed_start
from movedactors.ranks import open_ports, rank_table
from movedactors.reader import read_change
from movedactors.rolling import moved_view, part_role, part_supervisor
from movedactors.squares import is_total
from movedactors.systems import System
from movedactors.traps import standing
from movedactors.views import raised_log, seen_alike, twin_of, view
from plain_joint import some_changes
from randoms import Renaming, fuzzy_meaning, random_rows, random_run, remembering
from test_alike import change as tree_change
from test_rolling import ODD
from test_squares import totalled
from test_views import TO_CLEVER
from world import MEANING


def closed_chains(seed, many):
    """Chains of two closed changes: the greatest one to an edition that keeps more, and one that renames."""
    chosen = random.Random(seed)
    found = []
    for one in remembering(seed, many):
        first = greatest_change(one)
        found.append((chosen, [first, Renaming(chosen, first.new(), "n").change()]))
    return found


def editions_of(changes):
    return [changes[0].old()] + [change.new() for change in changes]


def lowered(told):
    """A choice or event of the newest edition of a chain, as a system that has this edition alone has it."""
    if isinstance(told, tuple):
        if len(told) == 4 and isinstance(told[0], int) and isinstance(told[1], str):
            return (0,) + told[1:]
        return tuple(lowered(part) for part in told)
    return told


class Twins(unittest.TestCase):
    """S6.6: what a system amid closed changes does, its twin can do as well."""

    def beside_twin(self, system):
        twin = twin_of(system)
        self.assertEqual(raised_log(twin), raised_log(system))
        self.assertIs(seen_alike(twin, system), True)
        self.assertEqual([twin.team(name)[0] for name, _, _, _ in system.editions()[0].supervisors()],
                         [system.newest()] * len(system.editions()[0].supervisors()))

    def beside_newest(self, system):
        """The same choices in a system that has the newest edition alone."""
        changes, meaning = system.changes(), system.meaning()
        begun = system.beginning()
        rows = []
        for address in begun.addresses():
            number, *start = begun.birth(address)
            for change in changes[number:]:
                start = changed_start(meaning, change, *start)
            rows.append((address, 0) + tuple(start))
        alone = System(meaning, system.editions()[-1:], [], begun.supply(), rows)
        told = [(lowered(choice), lowered(events)) for choice, events in raised_log(system)]
        make_all(alone, [choice for choice, _ in told])
        self.assertEqual(raised_log(alone), told)
        self.assertEqual(lowered(view(system)[1:]), view(alone)[1:])

    def test_chains_of_closed_changes(self):
        moved = 0
        for chosen, changes in closed_chains(240, 25):
            self.assertEqual([is_closed(change) for change in changes], [True, True])
            whole = composed(*changes)
            self.assertIs(is_closed(whole), True)
            meaning = chosen.choice([MEANING, fuzzy_meaning(chosen)])
            for told in (changes, [whole], changes[:1], changes[1:]):
                editions = editions_of(told)
                system = System(meaning, editions, told, [30, 31], random_rows(chosen, editions))
                random_run(chosen, system, 40, make, open_choices, can)
                moved += sum(choice[0] in ("move", "shift") for choice, _ in system.log())
                self.beside_twin(system)
                self.beside_newest(system)
        self.assertGreater(moved, 200)

    def test_a_clever_change(self):
        chosen = random.Random(241)
        for _ in range(10):
            editions = [TO_CLEVER.old(), TO_CLEVER.new()]
            system = System(fuzzy_meaning(chosen), editions, [TO_CLEVER], [], random_rows(chosen, editions))
            random_run(chosen, system, 40, make, open_choices, can)
            self.beside_twin(system)
            self.beside_newest(system)

    def test_open_ports_lead_out(self):
        """S9.2: within as many takes from open ports as the rank, whatever the messages are, an actor can move or is out."""
        many = 0
        for chosen, changes in closed_chains(242, 40):
            change = changes[0]
            points = {point[:2] for point in standing(change)}
            for role in change.old().roles():
                table = rank_table(change, role[0])
                for control in [control for control in table if table[control] > 0]:
                    many += 1
                    self.lead_out(chosen, change, control, table[control], points)
        self.assertGreater(many, 20)

    def lead_out(self, chosen, change, control, most, points):
        editions = [change.old(), change.new()]
        system = System(MEANING, editions, [change], [], random_rows(chosen, editions, spare=0) + [
            (9, 0, control[0], tuple(change.old().book().words(sort)[0] for _, sort in change.old().start(control[0])[0]),
             (1,) * len(change.old().start(control[0])[1]), (control, (2,) * len(change.old().mode(*control[:2])[2])))])
        for _ in range(most):
            if not system.is_in(9) or can(system, ("move", 9)):
                break
            port = chosen.choice(open_ports(change, system.state(9)[0]))
            number = chosen.randrange(2)
            kinds = [kind for kind in editions[number].kinds() if kind[1] == port]
            if not kinds:
                number, kinds = 0, [kind for kind in editions[0].kinds() if kind[1] == port]
            kind = chosen.choice(kinds)
            words = tuple(chosen.choice(editions[0].book().words(sort)) for _, sort in kind[2])
            make_all(system, [("post", 9, (number, kind[0], words, (3,) * len(kind[3]))), ("bring", 0, 9)])
            if not can(system, ("take", 9, port)):
                self.assertIn((system.state(9)[0], port), points)
                return
            make(system, ("take", 9, port))
        self.assertTrue(not system.is_in(9) or can(system, ("move", 9)))


class Texts(unittest.TestCase):
    def test_that_are_read_back(self):
        for _, (first, second) in closed_chains(243, 20):
            for change in (first, second, composed(first, second), turned(second), greatest_change(composed(first, second))):
                text = change_text(change)
                told = read_change(change.old(), change.new(), text)
                self.assertEqual(told, change)
                self.assertEqual(change_text(told), text)


class Equal(unittest.TestCase):
    """Calls that are repeated, with objects that were made anew by the same calls, tell equal values."""

    def test_random_changes(self):
        for one, other in zip(some_changes(244, 25), some_changes(244, 25)):
            joints = (Joint(one), Joint(other))
            for role, _, _, _ in one.old().roles():
                self.assertEqual(*[decide_role(joint, role) for joint in joints])
                self.assertEqual(*[whole_paper(joint, role, []) for joint in joints])
                for control in met(joints[0], role):
                    self.assertEqual(*[derived(joint, control) for joint in joints])
                    self.assertEqual(derived(joints[0], control), derived(joints[0], control))
            for row in one.rows():
                self.assertEqual(*[decide_row(joint, row) for joint in joints])
            for ask in (part_change, part_trees, weights, endless, standing, is_closed, is_total):
                self.assertEqual(ask(one), ask(other))
                self.assertEqual(ask(one), ask(one))
            if is_closed(one.with_rows([])):
                self.assertEqual(closing(one), closing(other))
                self.assertEqual(greatest_change(one), greatest_change(other))

    def test_partings(self):
        for one in (ODD, totalled(("link m;", "link n;")), tree_change(("top one 2", "top one 3"))):
            text = change_text(one)
            told = [part_change(one), part_trees(one)]
            self.assertEqual(told, [part_change(one), part_trees(one)])
            self.assertEqual(change_text(one), text)
            if is_total(one):
                again = read_change(one.old(), one.new(), text)
                self.assertEqual(part_role(one, one.old().roles()[0][0]), part_role(again, one.old().roles()[0][0]))
        self.assertEqual(part_supervisor(ODD, "top"), part_supervisor(ODD, "top"))

    def test_nothing_is_changed(self):
        """A system that is looked at stays as it is."""
        chosen = random.Random(245)
        _, changes = closed_chains(246, 1)[0]
        editions = editions_of(changes[1:])
        system = System(MEANING, editions, changes[1:], [30], random_rows(chosen, editions))
        random_run(chosen, system, 20, make, open_choices, can)
        before = system.twin()
        for ask in (moved_view, twin_of, raised_log, view):
            self.assertEqual(ask(system), ask(system))
        self.assertEqual((system, system.log()), (before, before.log()))


if __name__ == "__main__":
    unittest.main()
