"""Rolling changes: actors and supervisors that move in any order, and systems that part where this shows."""

from movedactors.alike import are_killed, differences, is_parting, kill_both, slot_for, slot_rows
from movedactors.choices import can, make, make_all
from movedactors.controls import starts, takes
from movedactors.errors import BadSystem
from movedactors.meanings import Meaning, unlike
from movedactors.parts import is_row
from movedactors.shapes import is_filled, is_state
from movedactors.sleeping import first_supervisors, open_arrow, open_slots, require_rolling, slot_stands, slot_variable
from movedactors.squares import moved_state, picture_terms, pictures, require_total
from movedactors.supervisors import above, names_of, slots_of, supervisor
from movedactors.systems import System
from movedactors.views import view
from movedactors.walks import SELF


def rolling(change):
    """The pair of the tuples of the sleepers and of the first supervisors."""
    require_rolling(change)
    sleepers = [role[0] for role in change.old().roles() if open_arrow(change, role[0]) is not None]
    return (tuple(sleepers), tuple(first_supervisors(change)))


def moved_view(system):
    """The moved view of a system with two editions and a total change."""
    if len(system.editions()) != 2:
        raise BadSystem("editions")
    require_total(system.changes()[0])
    actors = tuple([moved_actor(system, address) for address in system.addresses()])
    return (actors,) + view(system)[1:]


def moved_actor(system, address):
    """What a moved view has of an actor: its address, its lives, and what it is now."""
    if not system.is_in(address):
        now = ("out", system.why(address))
    elif system.edition(address) == system.newest():
        now = ("in", system.state(address))
    else:
        now = ("in", moved_state(system.meaning(), system.changes()[0], system.state(address), address))
    return (address, system.lives(address), now)


def are_moved_alike(one, other):
    """Whether the moved views of two systems are equal."""
    return moved_view(one) == moved_view(other)


def two_systems(change, meaning, rows):
    """Two systems with the same first actors, all of the old edition; in the second one all shift and move."""
    editions = [change.old(), change.new()]
    one = System(meaning, editions, [change], [], rows)
    other = System(meaning, editions, [change], [], rows)
    make_all(other, [("shift", name) for name in names_of(change.old().tree())])
    make_all(other, [("move", address) for address in other.addresses()])
    return (one, other)


def spare_address(change):
    """The least address that is greater than all addresses of slots."""
    return max([0] + slots_of(change.old().tree())) + 1


def part_role(change, role):
    """A parting of a role, or None if it is not a sleeper."""
    require_rolling(change)
    arrow = open_arrow(change, role)
    if arrow is None:
        return None
    control, kind, words, told = arrow
    registers = [("old", x) for x in change.old().mode(role, control[1])[2]]
    fields = [("field", x) for x in change.old().kind(kind)[3]]
    terms = [("var", variable) for variable in registers + fields]
    for picture in pictures(change, control, kind, words):
        if picture is not None:
            terms.extend(picture_terms(picture))
    meaning, values = unlike(terms, known_addresses(change, told))
    things = [tuple([values[variable] for variable in variables]) for variables in (registers, fields)]
    return (meaning, control, things[0], kind, words, things[1])


def known_addresses(change, told):
    """The table of the addresses of an actor beside those of the slots, and of the children that its edge makes."""
    taken = slots_of(change.old().tree()) + [spare_address(change)]
    found = {SELF[1]: spare_address(change)}
    address = 1
    for make_row in told[0]:
        while address in taken:
            address += 1
        found[("child", make_row[0])] = address
        address += 1
    return found


def judge_role(change, role, value):
    """Whether a value, which may be anything, is a right parting of a role."""
    require_rolling(change)
    change.old().role(role)
    if not is_role_parting(change, role, value):
        return False
    meaning, control, things, kind, words, fields = value
    own = spare_address(change)
    marking = starts(change.old(), role)[0]
    given = tuple([0 for _ in change.old().start(role)[1]])
    row = (own, 0, role, marking, given, (control, things))
    one, other = two_systems(change, meaning, slot_rows(change.old(), meaning) + [row])
    take = ("take", own, change.old().kind(kind)[1])
    for system in (one, other):
        make_all(system, [("post", own, (0, kind, words, fields)), ("bring", 0, own)])
    if not can(other, take):
        return True
    make(one, take)
    make(other, take)
    return not are_moved_alike(one, other)


def is_role_parting(change, role, value):
    """Whether a value, which may be anything, is of the form of a parting of a role."""
    if not is_row(value, 6) or not isinstance(value[0], Meaning):
        return False
    _, control, things, kind, words, fields = value
    old = change.old()
    if not is_state(old, (control, things)) or control[0] != role:
        return False
    return is_filled(old, kind, words, fields) and takes(old, control, kind)


def part_supervisor(change, name):
    """A parting of a supervisor, or None if it is not one of the first supervisors."""
    require_rolling(change)
    supervisor(change.old().tree(), name)
    if name not in first_supervisors(change):
        return None
    address = slot_of_first(change, name)
    meaning = slot_meaning(change)
    one, other = supervisor_systems(change, name, meaning)
    kills = []
    while are_moved_alike(one, other):
        kill_both(one, other, address)
        kills.append(address)
    return (meaning, tuple(kills))


def slot_of_first(change, name):
    """The address of a slot that shows what makes a supervisor a first one when its actor goes often enough."""
    tree = change.old().tree()
    for told in differences(change):
        if told[1] == name:
            return slot_for(tree, told)
    return [address for address in open_slots(change) if above(tree, address)[-1] == name][0]


def slot_meaning(change):
    """A meaning that gives different values to all different terms with which the slots begin in both trees."""
    addresses = slots_of(change.old().tree())
    terms = []
    for address in addresses:
        for _, held in slot_stands(change, address):
            terms.extend(held)
    meaning, _ = unlike(terms, {slot_variable(address): address for address in addresses})
    return meaning


def supervisor_systems(change, name, meaning):
    """The two systems that a parting of a supervisor parts."""
    one, other = two_systems(change, meaning, slot_rows(change.old(), meaning))
    make_all(one, [("shift", first) for first in first_supervisors(change) if first != name])
    return (one, other)


def judge_supervisor(change, name, value):
    """Whether a value, which may be anything, is a right parting of a supervisor that is a first one."""
    require_rolling(change)
    supervisor(change.old().tree(), name)
    if name not in first_supervisors(change) or not is_parting(value):
        return False
    meaning, kills = value
    one, other = supervisor_systems(change, name, meaning)
    return are_killed(one, other, kills) and not are_moved_alike(one, other)
