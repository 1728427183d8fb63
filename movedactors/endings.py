"""Endings: within how many takes actors that wait, and all that comes of them, have left the old edition."""

from movedactors.leaving import leavings, reached_ones, require_reached, waiting_ones
from movedactors.parts import is_list, is_row
from movedactors.words import is_number


def weight_table(change):
    """The table of the weights of the reached controls that have one.

    A weight is greater than each one that it is made of, so the least one that can be made at a time is final.
    """
    known = reached_ones(change)
    waiting = {control: leavings(change.old(), control) for control in waiting_ones(change, known)}
    table = {control: 0 for control in known if control not in waiting}
    while True:
        coming = {}
        for control in waiting:
            made = [] if control in table else made_weights(table, waiting[control])
            if made:
                coming[control] = min(made)
        if not coming:
            return table
        least = min(list(coming.values()))
        for control in coming:
            if coming[control] == least:
                table[control] = least


def made_weights(table, ports):
    """The list of the weights that the ports give whose arrows leave only controls of a table."""
    found = []
    for port in ports:
        sums = [sum_of(table, left) for left in ports[port]]
        if not any([one is None for one in sums]):
            found.append(1 + max(sums))
    return found


def sum_of(table, left):
    """The sum of the numbers of controls that are left, or None if the table does not have them all."""
    if not all([control in table for control in left]):
        return None
    return sum([table[control] for control in left])


def weight(change, control):
    """The weight of a reached control, or None if it is endless."""
    require_reached(change, control)
    return weight_table(change).get(control)


def weights(change):
    """The list of the pairs (control, weight) of the waiting controls with a weight, in order."""
    table = weight_table(change)
    return [(control, table[control]) for control in waiting_ones(change, reached_ones(change)) if control in table]


def endless(change):
    """The list of the endless controls, in order."""
    table = weight_table(change)
    return [control for control in reached_ones(change) if control not in table]


def easing_ports(change, control):
    """The list of the easing ports of a reached control, in the order of the book."""
    require_reached(change, control)
    table = weight_table(change)
    if table.get(control, 0) == 0:
        return []
    return ports_that_ease(table, leavings(change.old(), control), table[control])


def ports_that_ease(table, ports, number):
    """The list of the ports whose arrows leave only controls of a table, and numbers less than this one."""
    found = []
    for port in ports:
        sums = [sum_of(table, left) for left in ports[port]]
        if all([one is not None and one < number for one in sums]):
            found.append(port)
    return found


def judge_weights(change, value):
    """Whether a value, which may be anything, is a list that shows an end."""
    known = reached_ones(change)
    waiting = waiting_ones(change, known)
    if not is_list(value) or not all([is_weighed(waiting, row) for row in value]):
        return False
    table = {control: 0 for control in known if control not in waiting}
    table.update({control: number for control, number in value})
    if len(table) != len(known) - len(waiting) + len(value):
        return False
    return all([ports_that_ease(table, leavings(change.old(), control), number) for control, number in value])


def is_weighed(waiting, row):
    """Whether something, which may be anything, is a pair of a control that waits and a number of at least 1."""
    return is_row(row, 2) and row[0] in waiting and is_number(row[1]) and row[1] > 0


def judge_endless(change, value):
    """Whether a value, which may be anything, is an endless list."""
    waiting = waiting_ones(change, reached_ones(change))
    if not is_list(value) or not all([control in waiting for control in value]):
        return False
    held = {control: True for control in value}
    return len(held) == len(value) and all([is_kept_beside(change, held, control) for control in value])


def is_kept_beside(change, held, control):
    """Whether some arrow by each live port at a control leaves a control of a table."""
    ports = leavings(change.old(), control)
    return all([any([goal in held for left in ports[port] for goal in left]) for port in ports])
