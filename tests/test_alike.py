"""movedactors.alike: differences of supervisors, partings of the trees, and closed changes."""

import random
import unittest

from movedactors.alike import are_alike, differences, is_closed, judge_trees, part_trees
from movedactors.changes import Change
from movedactors.meanings import Meaning
from movedactors.reader import read_change, read_edition
from plain_joint import some_changes
from plain_parting import tree_difference
from randoms import remembering
from samples import SELF, anythings, nested, of, reg
from test_joint import BUSY, idle, joined
from test_obligations import UNLIKE
from test_views import TO_CLEVER
from world import BOOK, MEANING, TO_SECOND, TO_THIRD

TEXT = """
    edition {
        kind put main () (a);
        role r { mode m (q color) (x) [main]; start (p color) (i, j) { go m ($p) (i); } on m put { go m ($q) (a); } }
        role s { mode m () () []; start () () { go m () (); } }
        TREE
    }
"""
TREE = """
    supervisor top one 2 {
        slot 1 r (red) (nil(), up(nil()));
        supervisor low all 1 { slot 3 s () (); slot 2 r (green) (up(nil()), nil()); slot 6 s () (); }
        slot 4 s () ();
    }
    supervisor zero behind 0 { supervisor deep behind 3 { slot 5 r (red) (nil(), nil()); } slot 9 s () (); }
"""
KINDS = "change { kind put to put () (a); role r to r ($p) (i, j); role s to s () (); ROWS }"
TURNED = KINDS.replace("r ($p) (i, j)", "r (p[red : green, green : red]) (up(i), j)")


def change(*replaced, kinds=KINDS, tree=TREE):
    """The change to the edition in which the tree has other texts."""
    other = tree
    for old, new in replaced:
        assert other.count(old) == 1, old
        other = other.replace(old, new)
    editions = [read_edition(BOOK, TEXT.replace("TREE", told)) for told in (tree, other)]
    return read_change(*editions, kinds.replace("ROWS", ""))


class Base(unittest.TestCase):
    def check(self, one, *told):
        """Compares the differences; where there are some, a parting parts the two systems."""
        self.assertEqual(differences(one), list(told))
        self.assertIs(are_alike(one), not told)
        parting = part_trees(one)
        self.assertEqual(parting is None, not told)
        if told:
            self.assertIsInstance(parting[0], Meaning)
            self.assertLessEqual(len(parting[1]), 48)
            self.assertIs(tree_difference(one, *parting), True)
            self.assertIs(judge_trees(one, parting), True)
        return parting


class Differences(Base):
    def test_none(self):
        self.check(change())
        self.check(TO_CLEVER)

    def test_limits(self):
        self.check(change(("top one 2", "top one 3")), ("limit", "top"))
        self.check(change(("low all 1", "low all 0")), ("limit", "low"))
        self.check(change(("deep behind 3", "deep behind 2")), ("limit", "deep"))
        self.check(change(("zero behind 0", "zero behind 1")), ("limit", "zero"))
        self.assertEqual(len(self.check(change(("top one 2", "top one 0")), ("limit", "top"))[1]), 1)

    def test_ways(self):
        """Each child for which others are chosen: the last one of behind is chosen alone, the first one with all."""
        self.check(change(("top one", "top all")), ("way", "top", 1), ("way", "top", "low"), ("way", "top", 4))
        self.check(change(("top one", "top behind")), ("way", "top", 1), ("way", "top", "low"))
        self.check(change(("low all", "low behind")), ("way", "low", 2), ("way", "low", 6))
        self.check(change(("low all", "low one")), ("way", "low", 3), ("way", "low", 2), ("way", "low", 6))
        for way in ("one", "all"):
            self.check(change(("deep behind", f"deep {way}")))

    def test_limits_of_zero(self):
        """The way does not count where one of the limits is 0."""
        self.check(change(("zero behind", "zero one")))
        self.check(change(("zero behind 0", "zero all 2")), ("limit", "zero"))
        self.check(change(("low all 1", "low behind 0")), ("limit", "low"))

    def test_starts(self):
        self.check(change(("1 r (red) (nil()", "1 r (green) (nil()")), ("start", 1))
        self.check(change(("up(nil()));", "nil());")), ("start", 1))
        self.check(change(("(up(nil()), nil())", "(up(up(nil())), nil())")), ("start", 2))
        self.check(change(("5 r (red)", "5 r (green)")), ("start", 5))

    def test_starts_under_limits_of_zero(self):
        """Some supervisor above has to have a limit, and in the new tree."""
        none = TREE.replace("deep behind 3", "deep behind 0")
        self.check(change(("5 r (red)", "5 r (green)"), tree=none))
        self.check(change(("zero behind 0", "zero behind 1"), ("5 r (red)", "5 r (green)"), tree=none),
                   ("limit", "zero"), ("start", 5))
        self.check(change(("deep behind 3", "deep behind 0"), ("5 r (red)", "5 r (green)")), ("limit", "deep"))
        self.check(change(("low all 1", "low all 0"), ("2 r (green)", "2 r (red)")), ("limit", "low"), ("start", 2))
        inner = TREE.replace("low all 1", "low all 0")
        self.assertEqual(len(self.check(change(("2 r (green)", "2 r (red)"), tree=inner), ("start", 2))[1]), 1)

    def test_changed_starts(self):
        """The start of the old tree counts as the change changes it."""
        told = [("start", 1), ("start", 2), ("start", 5)]
        self.check(change(kinds=TURNED), *told)
        self.check(change(("1 r (red) (nil(),", "1 r (green) (up(nil()),"), kinds=TURNED), *told[1:])
        self.check(change(("1 r (red) (nil(),", "1 r (green) (up(nil()),"), ("2 r (green) (up(nil())", "2 r (red) (up(up(nil()))"),
                          ("5 r (red) (nil(),", "5 r (green) (up(nil()),"), kinds=TURNED))
        self.check(change(("1 r (red) (nil(),", "1 r (green) (nil(),"), kinds=TURNED), *told)

    def test_several_at_once(self):
        """First the limits, then the ways, then the starts, each in the order of the trees."""
        self.check(change(("top one 2", "top behind 1"), ("low all 1", "low one 2"), ("4 s ()", "4 s ()"),
                          ("deep behind 3", "deep all 1"), ("2 r (green)", "2 r (red)"), ("1 r (red)", "1 r (green)")),
                   ("limit", "top"), ("limit", "low"), ("limit", "deep"), ("way", "top", 1), ("way", "top", "low"),
                   ("way", "low", 3), ("way", "low", 2), ("way", "low", 6), ("start", 1), ("start", 2))

    def test_other_changes(self):
        self.assertEqual([told[0] for told in differences(TO_SECOND)], ["limit", "limit", "way", "way", "way", "way", "start", "start"])
        self.assertEqual(differences(TO_THIRD)[0], ("limit", "top"))
        for one in (TO_SECOND, TO_THIRD):
            self.assertIs(tree_difference(one, *part_trees(one)), True)

    def test_told_lists_are_new(self):
        differences(TO_SECOND).append(7)
        self.assertNotIn(7, differences(TO_SECOND))

    def test_the_most_kills(self):
        """The outermost limit is 2 and 3, those beneath it are 3."""
        tree = "supervisor one one 2 { supervisor two all 3 { supervisor three behind 3 { slot 1 s () (); slot 2 s () (); } } }"
        parting = self.check(change(("one one 2", "one one 3"), tree=tree), ("limit", "one"))
        self.assertEqual(len(parting[1]), 48)
        parting = self.check(change(("two all 3", "two all 2"), tree=tree), ("limit", "two"))
        self.assertEqual(len(parting[1]), 12)


class Judging(Base):
    def test_one_thing_otherwise(self):
        for one in (change(("top one 2", "top one 3")), change(("low all", "low behind")), change(("1 r (red)", "1 r (green)")),
                    change(("(up(nil()), nil())", "(up(up(nil())), nil())")), TO_SECOND,
                    change(("zero behind 0", "zero behind 1"))):
            meaning, kills = part_trees(one)
            slots = [slot[0] for slot in one.old().slots()]
            spoilt = [kills[:-1], kills + kills[-1:], kills[1:], kills * 2, ()]
            spoilt += [kills[:k] + (address,) + kills[k + 1:] for k in range(len(kills)) for address in slots]
            spoilt += [kills[:k] + (address,) + kills[k:] for k in range(len(kills) + 1) for address in slots]
            for other in spoilt:
                for told in (meaning, Meaning({})):
                    self.assertIs(judge_trees(one, (told, other)), tree_difference(one, told, other) is True, other)
            self.assertIs(judge_trees(one, (meaning, ())), False)

    def test_meanings(self):
        """Terms may have the same value; tables of primitives that the book does not have do not matter."""
        one = change(("(up(nil()), nil())", "(up(up(nil())), nil())"))
        meaning, kills = part_trees(one)
        self.assertIs(judge_trees(one, (Meaning({}), kills)), False)
        self.assertIs(judge_trees(one, (MEANING, kills)), True)
        self.assertIs(judge_trees(one, (Meaning({**meaning.tables(), "odd": [((1, 2), 3)]}), kills)), True)
        self.assertIs(judge_trees(one, (Meaning({"up": [((0,), 5), ((5,), 5)]}), kills)), False)

    def test_anything(self):
        one = change(("top one 2", "top one 3"))
        meaning, kills = part_trees(one)
        for value in anythings() + [True, 0, (), (meaning,), [meaning, kills], (meaning, list(kills)), (meaning, kills, ()), None,
                                    (kills, meaning), (meaning, "1"), (meaning, {1: 1}), nested(30), (meaning.tables(), kills),
                                    (meaning, (True,) * len(kills)), (meaning, (kills,)), (meaning, ("low",) * 3)]:
            self.assertIs(judge_trees(one, value), False)
        for value in anythings() + [0, -1, 7, True, "top", None, (1,)]:
            for told in ((meaning, value), (meaning, kills[:-1] + (value,)), (meaning, kills + (value,)), (meaning, (value,) + kills)):
                self.assertIs(judge_trees(one, told), False)
            if not isinstance(value, Meaning):
                self.assertIs(judge_trees(one, (value, kills)), False)

    def test_random_trees(self):
        chosen = random.Random(200)
        seen = {True: 0, False: 0}
        for one in some_changes(200, 120, (0,)):
            one = with_tree(chosen, one)
            self.check(one, *differences(one))
            slots = [slot[0] for slot in one.old().slots()]
            for _ in range(6):
                kills = tuple(chosen.choice(slots) for _ in range(chosen.randrange(6)))
                told = tree_difference(one, MEANING, kills)
                self.assertIs(judge_trees(one, (MEANING, kills)), told is True)
                if are_alike(one):
                    self.assertIsNot(told, True)
                seen[told is True] += 1
        self.assertGreater(min(seen.values()), 30)


def with_tree(chosen, one):
    """A change whose new tree has other ways, limits and starts."""
    def told(parts):
        found = []
        for part in parts:
            if part[0] == "supervisor":
                way = part[2] if chosen.randrange(3) else chosen.choice(("one", "all", "behind"))
                limit = part[3] if chosen.randrange(4) else chosen.randrange(4)
                found.append(part[:2] + (way, limit, told(part[4])))
            elif part[4] and chosen.randrange(5) == 0:
                found.append(part[:4] + (part[4][:-1] + (of("nil"),),))
            else:
                found.append(part)
        return tuple(found)

    new = one.new()
    edition = type(new)(BOOK, new.kinds()[:-1], new.roles(), told(new.tree()))
    return Change(one.old(), edition, one.kinds(), one.roles(), one.rows())


class Closed(unittest.TestCase):
    def test_closed(self):
        self.assertIs(is_closed(TO_CLEVER), True)
        self.assertIs(is_closed(joined().change()), True)
        self.assertIs(is_closed(change()), True)
        for one in some_changes(201, 20, (0,)):
            self.assertIs(is_closed(one), True)

    def test_a_role_is_not_alike(self):
        for _, _, replaced in UNLIKE:
            self.assertIs(is_closed(joined(*replaced).change()), False)
        self.assertIs(is_closed(joined(("mode only () () [];", "mode only () () [] heeds;")).change()), False)

    def test_a_row_is_wrong(self):
        one = joined().change()
        row = (BUSY[0], "work", (), (SELF,))
        self.assertIs(is_closed(one.with_rows([row])), False)
        self.assertIs(is_closed(one.with_rows(one.rows()[:1] + [row])), False)
        self.assertIs(is_closed(one.with_rows([])), True)
        self.assertIs(is_closed(one.with_rows([(idle("green")[0], "rest", ("green",), (reg("y"), reg("x")))])), True)

    def test_the_supervisors_differ(self):
        for replaced in (("top one 2", "top one 3"), ("low all", "low behind"), ("1 r (red)", "1 r (green)")):
            self.assertIs(is_closed(change(replaced)), False)
        for one in remembering(202, 20):
            wrong = one.with_rows([])
            self.assertIs(is_closed(wrong), True)
            self.assertIs(is_closed(with_tree(random.Random(1), wrong)), are_alike(with_tree(random.Random(1), wrong)))


if __name__ == "__main__":
    unittest.main()
