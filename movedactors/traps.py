"""Traps: controls in which actors can be kept for ever, and messages that can keep an actor from a take."""

from movedactors.controls import markings
from movedactors.edges import reached
from movedactors.leaving import goals, waiting_ones
from movedactors.parts import is_list
from movedactors.ranks import ports_below, rank_table
from movedactors.reading import elder_heads


def trapped(change, role):
    """The list of the trapped controls of a role, in order."""
    known = reached(change.old(), role)
    table = rank_table(change, role)
    return [control for control in known if control not in table]


def judge_trap(change, role, value):
    """Whether a value, which may be anything, is a trap set of a role."""
    waiting = waiting_ones(change, reached(change.old(), role))
    if not is_list(value) or not all([member in waiting for member in value]):
        return False
    held = {member: True for member in value}
    return len(held) == len(value) and all([is_kept_at(change, held, member) for member in value])


def is_kept_at(change, held, control):
    """Whether some arrow by each live port at a control leads to a control of a table."""
    ports = goals(change.old(), control)
    return all([any([goal in held for goal in ports[port]]) for port in ports])


def standing(change):
    """The list of the standing points, in order."""
    found = []
    for role in change.old().roles():
        table = rank_table(change, role[0])
        for control in waiting_ones(change, reached(change.old(), role[0])):
            for port in ports_below(change, table, control):
                found.extend([(control, port) + head for head in heads_without_elders(change, port)])
    return found


def heads_without_elders(change, port):
    """The list of the pairs (kind, words) of the messages of the new edition by a port that have no elder form."""
    found = []
    for kind in change.new().kinds():
        if kind[1] == port and kind[0] != "gone":
            olds = markings(change.new().book(), kind[2])
            found.extend([(kind[0], words) for words in olds if not elder_heads(change, kind[0], words)])
    return found
