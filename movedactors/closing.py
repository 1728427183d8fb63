"""Closing: the greatest change, which moves as much as right rows can, and what becomes of each control."""

from movedactors.derived import derived
from movedactors.errors import NotClosable
from movedactors.joint import Joint
from movedactors.leaving import reached_ones
from movedactors.obligations import decide_role, decide_row
from movedactors.ranks import ports_below, rank_table


def closing(change):
    """The list of the verdicts, one for each reached control of the old edition."""
    told = told_rows(change)
    greatest = change.with_rows([row for _, _, row in told if row is not None])
    tables = {role[0]: rank_table(greatest, role[0]) for role in change.old().roles()}
    found = []
    for control, word, row in told:
        if row is not None:
            found.append((control, word) + row[1:])
        else:
            found.append(waiting_verdict(greatest, tables[control[0]], control))
    return found


def greatest_change(change):
    """The greatest change."""
    return change.with_rows([row for _, _, row in told_rows(change) if row is not None])


def told_rows(change):
    """The list of tuples (control, word, row): a reached control and its row of the greatest change, or None."""
    joint = Joint(change)
    for role in change.old().roles():
        if decide_role(joint, role[0])[0] != "alike":
            raise NotClosable(role[0])
    return [(control,) + greatest_row(joint, control) for control in reached_ones(change)]


def greatest_row(joint, control):
    """The pair of the word of the verdict for a control that is met and its row of the greatest change, or None."""
    row = joint.change().row(control)
    if row is not None and decide_row(joint, row)[0] == "right":
        return ("kept", row)
    move = derived(joint, control)
    if move[0] != "move":
        return ("waits", None)
    return ("made" if row is None else "turned", (control,) + move[1:])


def waiting_verdict(greatest, table, control):
    """The verdict for a control without a row in the greatest change, where a table tells the ranks."""
    if control not in table:
        return (control, "trapped")
    return (control, "waits", table[control], tuple(ports_below(greatest, table, control)))
