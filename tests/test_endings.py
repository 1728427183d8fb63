"""movedactors.endings: weights, endless controls, easing ports, and lists that show them."""

import random
import unittest

from movedactors.choices import can, make_all
from movedactors.controls import started
from movedactors.edges import arrows, reached
from movedactors.endings import easing_ports, endless, judge_endless, judge_weights, weight, weights
from movedactors.errors import NoControl
from movedactors.ranks import open_ports, rank, ranks
from movedactors.reader import read_change, read_edition
from movedactors.systems import System
from plain_joint import some_changes
from samples import anythings, nested
from test_ranks import NAMES, at, freed
from world import BOOK, MEANING

# Each mode makes others: b two of c, c one of d beside itself becoming d; e makes itself anew for ever by one word.
TEXT = """
    edition {
        kind put main (c color) ();
        kind ask side () ();
        role r {
            mode a () () [main];
            mode b () () [main, side];
            mode c () () [main];
            mode d () () [main];
            mode e () () [main];
            mode f () () [main, gone];
            mode g () () [];
            start (p color) () if p red { go a () (); } else { go d () (); }
            on a put { go b () (); }
            on b put if c red { make k s (red) (); make l s (red) (); go c () (); } else { stop; }
            on b ask { make k s (red) (); make l s (red) (); make m s (red) (); go e () (); }
            on c put { make k r (green) (); go d () (); }
            on d put { stop; }
            on e put if c red { make k r (green) (); go e () (); } else { go f () (); }
            on f put { go g () (); }
            on f gone { make k s (green) (); fail bad; }
        }
        role s {
            mode c () () [main];
            mode d () () [side];
            mode h () () [main];
            start (p color) () if p red { go c () (); } else { go d () (); }
            on c put if c red { go h () (); } else { make k r (green) (); stop; }
            on d ask { make k s (green) (); stop; }
            on h put { stop; }
        }
    }
"""
OLD = read_edition(BOOK, TEXT)
FREE = read_change(OLD, OLD, """
    change { kind put to put ($c) (); kind ask to ask () (); role r to r ($p) (); role s to s ($p) (); }
""")


def also(*names):
    """The change with rows for these controls, told by a role and a mode."""
    return FREE.with_rows([((name[0], name[2:], ()), "g" if name[0] == "r" else "h", (), ()) for name in names])


def told(names):
    return [(name[0], name[2:], ()) for name in names.split()]


ALL = told("r.a r.b r.c r.d r.e r.f r.g s.c s.d s.h")


def left(change, control):
    """The controls that the arrows of a control leave, by live ports."""
    ports = {}
    for source, kind, _, edge in arrows(change.old(), control[0]):
        if source == control:
            goals = [(control[0],) + edge[4][1:3]] if edge[4][0] == "go" else []
            goals += [started(change.old(), make[1], make[2])[0] for make in edge[0]]
            ports.setdefault(change.old().kind(kind)[1], []).append(goals)
    return ports


def plain_weights(change):
    """The weights, as the least numbers that come about when all begin without one and become smaller."""
    known = [control for role in change.old().roles() for control in reached(change.old(), role[0])]
    table = {control: 0 if change.row(control) else None for control in known}
    for _ in range(len(known) + 1):
        for control in known:
            if change.row(control) is None:
                sums = []
                for goals in left(change, control).values():
                    if not any(table[goal] is None for told_goals in goals for goal in told_goals):
                        sums.append(1 + max(sum(table[goal] for goal in told_goals) for told_goals in goals))
                if sums and (table[control] is None or min(sums) < table[control]):
                    table[control] = min(sums)
    return table


class Weights(unittest.TestCase):
    def check(self, change, **numbers):
        """Weights by names, r_a for ("r", "a", ())."""
        table = {(name[0], name[2:], ()): number for name, number in numbers.items()}
        for control in ALL:
            self.assertEqual(weight(change, control), table.get(control), control)
        waiting = [control for control in ALL if change.row(control) is None]
        self.assertEqual(weights(change), [(control, table[control]) for control in waiting if control in table])
        self.assertEqual(endless(change), [control for control in ALL if control not in table])
        self.assertEqual(plain_weights(change), {control: table.get(control) for control in ALL})

    def test_children_that_wait(self):
        """d 1; s.h 1, s.c 1 more than the greater of s.h and r.d; c 1 more than its child and what it becomes.

        b makes the same child twice: both count.
        """
        self.check(FREE, r_d=1, r_c=3, s_h=1, s_c=2, r_b=8, r_a=9)
        self.check(also("s.d"), r_d=1, r_c=3, s_h=1, s_c=2, r_b=8, r_a=9, s_d=0, r_f=1)

    def test_children_that_are_free(self):
        self.check(also("s.c"), r_d=1, r_c=3, s_c=0, s_h=1, r_b=4, r_a=5)
        self.check(also("r.d", "s.h"), r_d=0, r_c=1, s_h=0, s_c=1, r_b=4, r_a=5)
        self.check(also("r.c"), r_d=1, r_c=0, s_h=1, s_c=2, r_b=5, r_a=6)

    def test_the_least_of_several_ports(self):
        self.check(also("r.e"), r_d=1, r_c=3, s_h=1, s_c=2, r_b=7, r_a=8, r_e=0)
        self.check(also("r.e", "s.c"), r_d=1, r_c=3, s_c=0, s_h=1, r_b=1, r_a=2, r_e=0)
        self.check(also("r.g"), r_d=1, r_c=3, s_h=1, s_c=2, r_b=8, r_a=9, r_f=1, r_g=0)

    def test_a_port_that_comes_out_less_later(self):
        """By main c leaves three that stop at once, by side it goes to f, and only then to such a one."""
        edition = read_edition(BOOK, """
            edition {
                kind put main () (); kind ask side () ();
                role r {
                    mode c () () [main, side]; mode f () () [side]; mode e () () [main];
                    start (p color) () if p red { go c () (); } else { go e () (); }
                    on c put { make k r (green) (); make l r (green) (); go e () (); }
                    on c ask { go f () (); }
                    on f ask { go e () (); }
                    on e put { stop; }
                }
            }
        """)
        one = read_change(edition, edition, """
            change { kind put to put () (); kind ask to ask () (); role r to r ($p) (); }""")
        self.assertEqual(weights(one), [(("r", "c", ()), 3), (("r", "f", ()), 2), (("r", "e", ()), 1)])
        self.assertEqual(easing_ports(one, ("r", "c", ())), ["side"])
        self.assertEqual(plain_weights(one), dict(weights(one)))

    def test_easing_ports(self):
        one = also("r.e")
        self.assertEqual([easing_ports(one, control) for control in ALL], [
            ["main"], ["side"], ["main"], ["main"], [], [], [], ["main"], [], ["main"]])
        two = also("r.e", "r.c", "r.d")
        self.assertEqual(weight(two, ALL[1]), 5)
        self.assertEqual(easing_ports(two, ALL[1]), ["main"])
        three = also("r.e", "r.c", "s.c")
        self.assertEqual((weight(three, ALL[1]), easing_ports(three, ALL[1])), (1, ["main", "side"]))
        self.assertEqual(easing_ports(also("s.d", "r.g"), ALL[5]), ["main", "gone"])
        self.assertEqual(easing_ports(also("r.g"), ALL[5]), ["main"])
        self.assertEqual(easing_ports(also("s.d"), ALL[5]), ["gone"])
        self.assertEqual(easing_ports(FREE, ALL[5]), [])

    def test_in_order(self):
        """By the roles of the old edition, and then by the controls."""
        self.assertEqual([control for control, _ in weights(FREE)], told("r.a r.b r.c r.d s.c s.h"))
        self.assertEqual(endless(FREE), told("r.e r.f r.g s.d"))

    def test_without_children(self):
        for change in (freed(), freed("f"), freed("t", "d"), freed("a", "t")):
            self.assertEqual([weight(change, control) for control in NAMES], [rank(change, control) for control in NAMES])
            self.assertEqual([easing_ports(change, control) for control in NAMES],
                             [open_ports(change, control) for control in NAMES])

    def test_great_weights(self):
        """Each mode makes three of the next one."""
        def handler(n, k):
            makes = "".join(f"make {name} r{n + 1} () ();" for name in "kmn") if n < 2 else ""
            return f"on m{k} put {{ {makes} go m{k + 1} () (); }}"

        modes = "".join(f"mode m{k} () () [main];" for k in range(4))
        roles = "".join(f"""
            role r{n} {{ {modes} start () () {{ go m0 () (); }}
                         {handler(n, 0)} {handler(n, 1)} {handler(n, 2)} on m3 put {{ stop; }} }}""" for n in range(3))
        old = read_edition(BOOK, f"edition {{ kind put main () (a); {roles} }}")
        one = read_change(old, old, "change { kind put to put () (a); " + "".join(
            f"role r{n} to r{n} () ();" for n in range(3)) + "}")
        first = 4
        for n in (2, 1, 0):
            self.assertEqual(weight(one, (f"r{n}", "m0", ())), first)
            first = 4 + 9 * first

    def test_no_control(self):
        for control in anythings() + [("r", "h", ()), ("q", "a", ()), ("r", "a", []), ("r", "a"), True, None, list(ALL[0]),
                                      ("r", "a", ("red",)), nested(40), (ALL[0], ALL[1])]:
            for ask in (weight, easing_ports):
                with self.assertRaises(NoControl) as caught:
                    ask(FREE, control)
                self.assertIs(caught.exception.control, control)
        with self.assertRaises(NoControl):
            weight(freed(), at("z"))

    def test_told_lists_are_new(self):
        for ask in (lambda: weights(FREE), lambda: endless(FREE), lambda: easing_ports(FREE, ALL[0])):
            ask().append(7)
            self.assertNotIn(7, ask())

    def test_random_changes(self):
        chosen = random.Random(180)
        seen = {}
        for makes in (True, False):
            for one in some_changes(180 + makes, 120):
                change = one.with_rows([row for row in one.rows() if chosen.randrange(3) == 0])
                table = plain_weights(change)
                for control in table:
                    self.assertEqual(weight(change, control), table[control])
                    seen[table[control]] = True
                    ports = left(change, control)
                    self.assertEqual(easing_ports(change, control), [] if not table[control] else [
                        port for port in BOOK.ports() if port in ports and all(None not in [
                            table[goal] for goal in goals] and sum(table[goal] for goal in goals) < table[control]
                            for goals in ports[port])])
                if not any(edge[0] for role in one.old().roles() for _, _, _, edge in arrows(one.old(), role[0])):
                    for role in one.old().roles():
                        self.assertEqual([(control, weight(change, control)) for control, _ in ranks(change, role[0])],
                                         ranks(change, role[0]))
                self.check_lists(chosen, change)
        self.assertLessEqual({None, 0, 1, 2, 3}, set(seen))

    def check_lists(self, chosen, change):
        self.assertIs(judge_weights(change, weights(change)), True)
        self.assertIs(judge_endless(change, tuple(endless(change))), True)
        weighed = dict(weights(change))
        known = list(weighed) + endless(change)
        for _ in range(3):
            some = chosen.sample(known, chosen.randrange(len(known) + 1))
            value = [(control, weighed.get(control, 3) + chosen.choice((0, 0, 1, 3))) for control in some]
            self.assertIs(judge_weights(change, value), shows_an_end(change, value))
            self.assertIs(judge_endless(change, some), is_endless(change, some))


def shows_an_end(change, value):
    table = dict(value)
    for control, number in value:
        ports = left(change, control)
        if not any(all(all(goal in table or change.row(goal) for goal in goals)
                       and sum(table.get(goal, 0) for goal in goals) < number for goals in told_goals)
                   for told_goals in ports.values()):
            return False
    return True


def is_endless(change, value):
    return all(any(goal in value for goals in told_goals for goal in goals)
               for control in value for told_goals in left(change, control).values())


class Runs(unittest.TestCase):
    def test_takes_from_easing_ports(self):
        """After at most as many takes as the weight nobody is in in the old edition who came of the actor."""
        chosen = random.Random(185)
        seen = {}
        for one in some_changes(186, 60, (0, 1)) + [also("r.e"), also("r.d", "s.h"), also("r.e", "s.c")] * 3:
            change = one.with_rows([row for row in one.rows() if chosen.randrange(3) == 0] or one.rows())
            for control, number in weights(change):
                seen[number] = True
                self.lead_out(chosen, change, control, number)
        self.assertLessEqual({1, 2, 3, 4, 5}, set(seen))

    def lead_out(self, chosen, change, control, number):
        old = change.old()
        marks, given, _ = old.start(control[0])
        row = (90, 0, control[0], tuple(old.book().words(sort)[0] for _, sort in marks), (1,) * len(given),
               (control, (1,) * len(old.mode(*control[:2])[2])))
        slots = [(slot[0], 1, role[0], tuple(old.book().words(sort)[0] for _, sort in role[2][0]), (1,) * len(role[2][1]))
                 for slot in old.slots() for role in change.new().roles()[:1]]
        system = System(MEANING, [old, change.new()], [change], [], slots + [row])
        for _ in range(number + 1):
            make_all(system, [("move", a) for a in system.addresses() if can(system, ("move", a))])
            waiting = [a for a in system.addresses() if system.is_in(a) and system.edition(a) == 0]
            if not waiting:
                return
            address = chosen.choice(waiting)
            port = chosen.choice(easing_ports(change, system.state(address)[0]))
            kind = chosen.choice([kind for kind in old.kinds() if kind[1] == port])
            words = tuple(chosen.choice(old.book().words(sort)) for _, sort in kind[2])
            make_all(system, [("post", address, (0, kind[0], words, (77,) * len(kind[3]))), ("bring", 0, address),
                              ("take", address, port)])
        self.fail((control, number))


class Lists(unittest.TestCase):
    def test_told_lists(self):
        for change in (FREE, also("s.d"), also("r.e", "s.c"), also("r.g"), freed("f"), freed()):
            for judge, value in ((judge_weights, weights(change)), (judge_endless, endless(change))):
                for some in (value, tuple(value), value[::-1], [], ()):
                    self.assertIs(judge(change, some), True)

    def test_greater_numbers(self):
        """Numbers that are greater than the weights show an end as well."""
        table = dict(weights(FREE))
        for control in table:
            value = [(other, number + 100 * (other == control)) for other, number in table.items()]
            self.assertIs(judge_weights(FREE, value), control == ("r", "a", ()))
        self.assertIs(judge_weights(FREE, [(control, number * 10) for control, number in table.items()]), True)
        self.assertIs(judge_weights(FREE, [(("r", "d", ()), 10 ** 39)]), True)

    def test_one_thing_otherwise(self):
        value = weights(FREE)
        for k, (control, number) in enumerate(value):
            for other in ((control, number - 1), (control, 0), (control, -1), (control, True), (control, None), (control,),
                          [control, number], (control, number, 1), (list(control), number), (ALL[4], number), (ALL[6], 99),
                          (("r", "h", ()), number), (control, str(number)), number, control):
                self.assertIs(judge_weights(FREE, value[:k] + [other] + value[k + 1:]), False, other)
            self.assertIs(judge_weights(FREE, value + [value[k]]), False)
            self.assertIs(judge_weights(FREE, value + [(control, number + 1)]), False)
        for k, dropped in ((3, False), (4, False), (5, False), (2, False), (1, False), (0, True)):
            self.assertIs(judge_weights(FREE, value[:k] + value[k + 1:]), dropped)
        self.assertIs(judge_weights(FREE, [(("r", "d", ()), 1), (("s", "h", ()), 1)]), True)
        self.assertIs(judge_weights(also("r.d"), [(("r", "d", ()), 1)]), False)

    def test_one_thing_otherwise_in_endless_lists(self):
        value = endless(FREE)
        for k, control in enumerate(value):
            for other in (ALL[0], ALL[3], list(control), control[:2], ("r", "h", ()), (control, 1), True, None):
                self.assertIs(judge_endless(FREE, value[:k] + [other] + value[k + 1:]), False)
            self.assertIs(judge_endless(FREE, value + [control]), False)
        for some, answer in (("r.g", True), ("s.d", True), ("r.e", True), ("r.f", False), ("r.f r.g", False),
                             ("r.f r.g s.d", True), ("r.e s.d", True), ("s.c", False), ("r.d", False), ("r.a", False)):
            self.assertIs(judge_endless(FREE, told(some)), answer, some)
        self.assertIs(judge_endless(also("r.g"), told("r.g")), False)
        self.assertIs(judge_endless(also("r.e"), told("r.e")), False)

    def test_anything(self):
        for value in anythings() + [nested(40), True, 0, "r", {}, None, dict(weights(FREE)), set()]:
            for judge in (judge_weights, judge_endless):
                self.assertIs(judge(FREE, value), value == [])
                self.assertIs(judge(FREE, [value]), False)
                self.assertIs(judge(FREE, (value, ALL[6])), False)
            self.assertIs(judge_weights(FREE, [(value, 1)]), False)
            self.assertIs(judge_weights(FREE, [(("r", "d", ()), value)]), False)
            self.assertIs(judge_weights(FREE, [(("r", value, ()), 1)]), False)


if __name__ == "__main__":
    unittest.main()
