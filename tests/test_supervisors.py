"""movedactors.supervisors: who is above and beneath, and whom a supervisor chooses."""

import unittest

from movedactors.errors import NoActor, UnknownName
from movedactors.supervisors import above, beneath, chosen, names_of, slot, slots_of, supervisor
from samples import OLD_TREE, anythings


def slot_of(address):
    return ("slot", address, "kid", (), ())


def team(name, way, *children):
    return ("supervisor", name, way, 0, children)


INNER = team("in", "one", slot_of(9), slot_of(2))
DEEP = team("deep", "behind", slot_of(7), INNER, slot_of(4))
SIDE = team("side", "all", slot_of(3), slot_of(8))
TREE = (team("all1", "all", slot_of(5), DEEP, slot_of(1), SIDE), team("last", "behind", slot_of(6)))
STRANGE = [True, False, None, "slot", "supervisor", "kid", "one", "cell", 0, 10, -1, ("in",), (9,), [9], "9"]


def unknown(case, error, attribute, ask):
    with case.assertRaises(error) as caught:
        ask()
    return getattr(caught.exception, attribute)


class Trees(unittest.TestCase):
    def test_in_order(self):
        self.assertEqual(names_of(TREE), ["all1", "deep", "in", "side", "last"])
        self.assertEqual(slots_of(TREE), [5, 7, 9, 2, 4, 1, 3, 8, 6])
        self.assertEqual((names_of(()), slots_of(())), ([], []))
        self.assertEqual((names_of(OLD_TREE), slots_of(OLD_TREE)), (["top", "low", "rest"], [1, 4, 7, 2]))
        names_of(TREE).clear()
        slots_of(TREE).clear()
        self.assertEqual(len(names_of(TREE) + slots_of(TREE)), 14)

    def test_one(self):
        for part in (INNER, DEEP, SIDE, TREE[0], TREE[1]):
            self.assertEqual(supervisor(TREE, part[1]), part)
        for address in slots_of(TREE):
            self.assertEqual(slot(TREE, address), slot_of(address))
        for value in STRANGE + anythings() + [5, 9]:
            self.assertIs(unknown(self, UnknownName, "name", lambda: supervisor(TREE, value)), value)
        for value in STRANGE + anythings() + ["deep", "in"]:
            self.assertIs(unknown(self, NoActor, "address", lambda: slot(TREE, value)), value)
        self.assertIs(unknown(self, NoActor, "address", lambda: slot((team("a", "one", slot_of(2)),), True)), True)

    def test_address_one_is_not_true(self):
        self.assertEqual(slot(TREE, 1), slot_of(1))
        self.assertEqual(above(TREE, 1), ["all1"])
        for ask in (lambda: above(TREE, True), lambda: chosen(TREE, "all1", True)):
            self.assertIs(unknown(self, UnknownName, "name", ask), True)

    def test_above(self):
        """From the outermost one inwards."""
        for child, names in ((9, ["all1", "deep", "in"]), ("in", ["all1", "deep"]), (4, ["all1", "deep"]), (5, ["all1"]),
                             ("all1", []), ("last", []), (6, ["last"]), (8, ["all1", "side"]), ("side", ["all1"])):
            self.assertEqual(above(TREE, child), names)
        for value in STRANGE + anythings():
            self.assertIs(unknown(self, UnknownName, "name", lambda: above(TREE, value)), value)

    def test_beneath(self):
        self.assertEqual(beneath(TREE, "all1"), (["deep", "in", "side"], [5, 7, 9, 2, 4, 1, 3, 8]))
        self.assertEqual(beneath(TREE, "deep"), (["in"], [7, 9, 2, 4]))
        self.assertEqual(beneath(TREE, "in"), ([], [9, 2]))
        self.assertEqual(beneath(TREE, "last"), ([], [6]))
        for value in STRANGE + anythings() + [5, 9]:
            self.assertIs(unknown(self, UnknownName, "name", lambda: beneath(TREE, value)), value)

    def test_chosen(self):
        every = (["deep", "in", "side"], [5, 7, 9, 2, 4, 1, 3, 8])
        for child in (5, "deep", 1, "side"):
            self.assertEqual(chosen(TREE, "all1", child), every)
        self.assertEqual(chosen(TREE, "deep", 7), (["in"], [7, 9, 2, 4]))
        self.assertEqual(chosen(TREE, "deep", "in"), (["in"], [9, 2, 4]))
        self.assertEqual(chosen(TREE, "deep", 4), ([], [4]))
        self.assertEqual(chosen(TREE, "in", 9), ([], [9]))
        self.assertEqual(chosen(TREE, "in", 2), ([], [2]))
        one = (team("top", "one", slot_of(5), DEEP, slot_of(1)),)
        self.assertEqual(chosen(one, "top", "deep"), (["deep", "in"], [7, 9, 2, 4]))
        self.assertEqual(chosen(one, "top", 1), ([], [1]))

    def test_deeper_things_are_no_children(self):
        for name, child in (("all1", "in"), ("all1", 7), ("all1", 9), ("deep", 9), ("deep", 2), ("in", "in"),
                            ("in", "deep"), ("all1", "all1"), ("all1", "last"), ("last", 5)):
            self.assertEqual(unknown(self, UnknownName, "name", lambda: chosen(TREE, name, child)), child)

    def test_anything(self):
        for value in STRANGE + anythings():
            self.assertIs(unknown(self, UnknownName, "name", lambda: chosen(TREE, value, value)), value)
            self.assertIs(unknown(self, UnknownName, "name", lambda: chosen(TREE, "deep", value)), value)
            self.assertIs(unknown(self, UnknownName, "name", lambda: chosen(TREE, "none", 9)), "none")

    def test_told_lists_are_new(self):
        for ask in (lambda: beneath(TREE, "all1"), lambda: chosen(TREE, "all1", 5)):
            names, addresses = ask()
            names.clear()
            addresses.clear()
            self.assertEqual([len(told) for told in ask()], [3, 8])
        above(TREE, 9).clear()
        self.assertEqual(len(above(TREE, 9)), 3)


if __name__ == "__main__":
    unittest.main()
