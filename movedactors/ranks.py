"""Ranks: within how many takes an actor that waits comes to a control that can move."""

from movedactors.edges import reached
from movedactors.leaving import goals, require_reached


def rank_table(change, role):
    """The table of the ranks of the reached controls of a role that have one."""
    old = change.old()
    known = reached(old, role)
    table = {control: 0 for control in known if change.row(control) is not None}
    waiting = {control: goals(old, control) for control in known if control not in table}
    rank_now = 0
    while True:
        coming = [control for control in waiting if control not in table and closed_ports(table, waiting[control])]
        if not coming:
            return table
        rank_now += 1
        for control in coming:
            table[control] = rank_now


def closed_ports(table, ports):
    """The list of the ports by which each arrow ends or leads to a control that a table has."""
    return [port for port in ports if all([goal is None or goal in table for goal in ports[port]])]


def rank(change, control):
    """The rank of a reached control, or None if it is trapped."""
    require_reached(change, control)
    return rank_table(change, control[0]).get(control)


def ranks(change, role):
    """The list of the pairs (control, rank) of the reached controls of a role, in order."""
    known = reached(change.old(), role)
    table = rank_table(change, role)
    return [(control, table.get(control)) for control in known]


def open_ports(change, control):
    """The list of the open ports of a reached control, in the order of the book."""
    require_reached(change, control)
    return ports_below(change, rank_table(change, control[0]), control)


def ports_below(change, table, control):
    """The list of the open ports of a control, where a table tells the ranks."""
    if table.get(control, 0) == 0:
        return []
    lower = {goal: True for goal in table if table[goal] < table[control]}
    return closed_ports(lower, goals(change.old(), control))
