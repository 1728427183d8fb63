"""Supervisors that are alike in both editions of a change, and systems that part where they are not."""

from movedactors.going import settled
from movedactors.joint import Joint
from movedactors.meanings import Meaning, unlike, value_of
from movedactors.obligations import decide_role, decide_row
from movedactors.parts import is_row
from movedactors.plain import is_same_value
from movedactors.raising import changed_start, start_terms
from movedactors.supervisors import above, beneath, chosen, names_of, slot, slots_of, supervisor
from movedactors.systems import System


def differences(change):
    """The list of the differences of the supervisors, in order."""
    old = change.old().tree()
    new = change.new().tree()
    names = names_of(old)
    found = [("limit", name) for name in names if limit_of(old, name) != limit_of(new, name)]
    for name in names:
        if limit_of(old, name) >= 1 and limit_of(new, name) >= 1:
            children = [part[1] for part in supervisor(old, name)[4]]
            odd = [child for child in children if chosen(old, name, child) != chosen(new, name, child)]
            found.extend([("way", name, child) for child in odd])
    addresses = [address for address in slots_of(new) if is_renewed(new, address)]
    return found + [("start", address) for address in addresses if not has_same_start(change, address)]


def limit_of(tree, name):
    """The limit of a supervisor."""
    return supervisor(tree, name)[3]


def is_renewed(tree, address):
    """Whether some supervisor above a slot has a limit of at least 1."""
    return any([limit_of(tree, name) >= 1 for name in above(tree, address)])


def has_same_start(change, address):
    """Whether the start of a slot in the old tree, changed by terms, is its start in the new tree."""
    return is_same_value(changed_slot_start(change, address), slot(change.new().tree(), address)[2:])


def changed_slot_start(change, address):
    """The start of a slot in the old tree, changed by terms."""
    _, _, role, words, terms = slot(change.old().tree(), address)
    return start_terms(change, role, words, terms)


def are_alike(change):
    """Whether the supervisors of a change are alike."""
    return not differences(change)


def part_trees(change):
    """A parting of the trees, or None if the supervisors are alike."""
    found = differences(change)
    if not found:
        return None
    address = slot_for(change.old().tree(), found[0])
    terms = [term for known in slots_of(change.old().tree()) for term in both_start_terms(change, known)]
    meaning, _ = unlike(terms, {})
    elder, newer = tree_systems(change, meaning)
    kills = []
    while is_like(change, elder, newer):
        kill_both(elder, newer, address)
        kills.append(address)
    return (meaning, tuple(kills))


def both_start_terms(change, address):
    """The list of the terms of a slot's start in the old tree, changed, and of its start in the new tree."""
    return list(changed_slot_start(change, address)[2] + slot(change.new().tree(), address)[4])


def slot_for(tree, difference):
    """The address of a slot that shows a difference when its actor goes often enough."""
    told = difference[-1]
    return beneath(tree, told)[1][0] if isinstance(told, str) else told


def slot_rows(edition, meaning):
    """The list of the rows of first actors for all slots of an edition, which begin with their starts."""
    return [(address, 0, role, words, tuple([value_of(meaning, term, {}) for term in terms]))
            for address, role, words, terms, _ in edition.slots()]


def tree_systems(change, meaning):
    """The elder system and the newer one that a parting of the trees parts."""
    rows = slot_rows(change.old(), meaning)
    changed = [row[:2] + changed_start(meaning, change, row[2], row[3], row[4]) for row in rows]
    return (System(meaning, [change.old()], [], [], rows), System(meaning, [change.new()], [], [], changed))


def is_like(change, elder, newer):
    """Whether an elder system and a newer one are not parted as they are."""
    for name in names_of(change.old().tree()):
        if elder.team(name) != newer.team(name):
            return False
    for address in slots_of(change.old().tree()):
        if elder.is_in(address) != newer.is_in(address) or elder.lives(address) != newer.lives(address):
            return False
        _, role, words, things = elder.birth(address)
        if changed_start(elder.meaning(), change, role, words, things) != newer.birth(address)[1:]:
            return False
    return True


def judge_trees(change, value):
    """Whether a value, which may be anything, is a right parting of the trees."""
    if not is_parting(value):
        return False
    meaning, kills = value
    elder, newer = tree_systems(change, meaning)
    return are_killed(elder, newer, kills) and not is_like(change, elder, newer)


def are_killed(one, other, kills):
    """Lets actors go in two systems, one after another; returns whether each of them is in at its turn in both.

    The kills may be anything: the systems have the actors of slots alone, so nothing else is in.
    """
    for address in kills:
        if not one.is_in(address) or not other.is_in(address):
            return False
        kill_both(one, other, address)
    return True


def kill_both(one, other, address):
    """Lets an actor go in two systems."""
    settled(one, address, "closed")
    settled(other, address, "closed")


def is_parting(value):
    """Whether a value, which may be anything, is a pair of a meaning and a tuple."""
    return is_row(value, 2) and isinstance(value[0], Meaning) and isinstance(value[1], tuple)


def is_closed(change):
    """Whether a change is closed."""
    joint = Joint(change)
    if not all([decide_role(joint, role[0])[0] == "alike" for role in change.old().roles()]):
        return False
    return are_alike(change) and all([decide_row(joint, row)[0] == "right" for row in change.rows()])
