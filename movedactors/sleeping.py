"""What does not do the same when actors and supervisors move in any order: sleepers and first supervisors."""

from movedactors.alike import differences, is_renewed
from movedactors.edges import arrows
from movedactors.errors import BadChange
from movedactors.handling import first_stand
from movedactors.plain import is_same_value
from movedactors.squares import all_controls, moved_stand, require_total, square
from movedactors.supervisors import above, names_of, slot, slots_of


def require_rolling(change):
    """Raises BadChange if a change is not total, or if it does not heed alike."""
    require_total(change)
    old = change.old()
    numbers = {row[0]: k for k, row in enumerate(change.rows())}
    for control in all_controls(old):
        new_role = change.of_role(control[0])[1]
        new_mode = change.new().mode(new_role, change.row(control)[1])
        if old.mode(control[0], control[1])[4] != new_mode[4]:
            raise BadChange((2, numbers[control]))


def open_arrow(change, role):
    """The first arrow of a role whose square is not closed, or None."""
    for arrow in arrows(change.old(), role):
        if square(change, arrow[0], arrow[1], arrow[2]) is not None:
            return arrow
    return None


def first_supervisors(change):
    """The list of the first supervisors, in the order of the trees."""
    tree = change.old().tree()
    # A difference of a start tells an address behind its word, which is no name.
    known = [told[1] for told in differences(change)]
    known.extend([above(tree, address)[-1] for address in open_slots(change)])
    return [name for name in names_of(tree) if name in known]


def open_slots(change):
    """The list of the addresses of the open slots, in order."""
    tree = change.new().tree()
    renewed = [address for address in slots_of(tree) if is_renewed(tree, address)]
    stands = [(address,) + slot_stands(change, address) for address in renewed]
    return [address for address, one, other in stands if not is_same_value(one, other)]


def slot_stands(change, address):
    """The stands in which a slot's start begins: that of the old tree, moved, and that of the new tree.

    The variable of the actor itself tells the address, so that terms of several slots can stand side by side.
    """
    own = ("var", slot_variable(address))
    stands = []
    for edition in (change.old(), change.new()):
        _, _, role, words, terms = slot(edition.tree(), address)
        stands.append(first_stand(edition, role, words, terms, own))
    return (moved_stand(change, stands[0], own), stands[1])


def slot_variable(address):
    """The variable of the actor of a slot."""
    return ("self", address)
