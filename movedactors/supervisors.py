"""Supervisors of a tree: who is above, who is beneath, and whom a supervisor chooses."""

from movedactors.errors import NoActor, UnknownName
from movedactors.trees import tree_parts
from movedactors.words import is_number


def names_of(tree):
    """The list of the names of all supervisors, in order."""
    return names_in([part for part, _ in tree_parts(tree)])


def slots_of(tree):
    """The list of the addresses of all slots, in order."""
    return slots_in([part for part, _ in tree_parts(tree)])


def names_in(parts):
    """The list of the names of the supervisors among parts."""
    return [part[1] for part in parts if part[0] == "supervisor"]


def slots_in(parts):
    """The list of the addresses of the slots among parts."""
    return [part[1] for part in parts if part[0] == "slot"]


def supervisor(tree, name):
    """The tuple of a supervisor, told by its name, which may be anything."""
    for part, _ in tree_parts(tree):
        if part[0] == "supervisor" and is_told_by(part, name):
            return part
    raise UnknownName(name)


def slot(tree, address):
    """The tuple of a slot, told by its address, which may be anything."""
    for part, _ in tree_parts(tree):
        if part[0] == "slot" and is_told_by(part, address):
            return part
    raise NoActor(address)


def is_told_by(part, value):
    """Whether a value, which may be anything, is the name of a supervisor or the address of a slot."""
    return (isinstance(value, str) or is_number(value)) and part[1] == value


def above(tree, child):
    """The list of the names of the supervisors above a supervisor or a slot, from the outermost one inwards."""
    owners = {part[1]: owner for part, owner in tree_parts(tree)}
    if not (isinstance(child, str) or is_number(child)) or child not in owners:
        raise UnknownName(child)
    found = []
    owner = owners[child]
    while owner is not None:
        found.append(owner)
        owner = owners[owner]
    return found[::-1]


def beneath(tree, name):
    """The pair of the lists of the supervisors and of the slots beneath a supervisor, in order."""
    return told_parts(supervisor(tree, name)[4])


def told_parts(parts):
    """The pair of the lists of the supervisors and of the slots among parts and beneath them, in order."""
    return (names_of(parts), slots_of(parts))


def chosen(tree, name, child):
    """The pair of the lists of the supervisors and of the slots that a supervisor chooses for one of its children."""
    _, _, way, _, children = supervisor(tree, name)
    places = [k for k, part in enumerate(children) if is_told_by(part, child)]
    if not places:
        raise UnknownName(child)
    if way == "all":
        return told_parts(children)
    if way == "behind":
        return told_parts(children[places[0]:])
    return told_parts(children[places[0]:places[0] + 1])
