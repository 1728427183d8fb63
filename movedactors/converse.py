"""The converse of what is promised of twins: for each change that is not closed a system that parts from its twin."""

from movedactors.alike import part_trees, slot_rows
from movedactors.choices import make_all
from movedactors.errors import BadSystem, NotNow
from movedactors.histories import Walk, parted, row_terms, unlike_place
from movedactors.joint import Joint
from movedactors.meanings import Meaning
from movedactors.obligations import decide_role, decide_row
from movedactors.parts import is_row
from movedactors.systems import System
from movedactors.views import raised_log, seen_alike, twin_of


def part_change(change):
    """A parting of a change, or None if it is closed."""
    joint = Joint(change)
    for role in change.old().roles():
        told, shown = decide_role(joint, role[0])
        if told == "unlike":
            return part_by_role(joint, shown)
    for row in change.rows():
        told, shown = decide_row(joint, row)
        if told == "wrong":
            return part_by_row(joint, row, shown)
    trees = part_trees(change)
    if trees is None:
        return None
    meaning, kills = trees
    choices = [("kill", address, "closed") for address in kills]
    return (meaning, (), tuple(slot_rows(change.old(), meaning)), tuple(choices))


def part_by_role(joint, history):
    """A parting of a change for an unlike history: an actor lives it, and so does that of the twin, but for the end.

    Whether an actor heeds is seen when another one goes to which it is linked.
    """
    told = parted(joint, history, [])
    if unlike_place(joint, history) != "heeds":
        return living(joint.change(), told, (), ())
    _, (role, words, things, _), own, supply = told
    other = max([own] + supply) + 1
    return living(joint.change(), told, ((other, 0, role, words, things),), (
        ("link", own, other), ("kill", other, "closed")))


def part_by_row(joint, row, history):
    """A parting of a change for a history behind which a row fails: an actor lives it and moves."""
    told = parted(joint, history, row_terms(joint, Walk(joint, history), row[3]))
    return living(joint.change(), told, (), (("move", told[2]),))


def living(change, told, others, choices):
    """A parting in which an actor lives a life that is told by parted, beside other actors, and further choices."""
    meaning, (role, words, things, steps), own, supply = told
    rows = slot_rows(change.old(), meaning) + [(own, 0, role, words, things)]
    made = []
    for kind, marking, fields in steps:
        message = (0, kind, marking, fields)
        made.extend([("post", own, message), ("bring", 0, own), ("take", own, change.old().kind(kind)[1])])
    return (meaning, tuple(supply), tuple(rows) + others, tuple(made) + choices)


def judge_change(change, value):
    """Whether a value, which may be anything, is a right parting of a change."""
    if not is_row(value, 4) or not isinstance(value[0], Meaning):
        return False
    meaning, supply, actors, choices = value
    if not all([isinstance(part, tuple) for part in value[1:]]) or not all([is_row(row, 5) for row in actors]):
        return False
    try:
        system = System(meaning, [change.old(), change.new()], [change], supply, actors)
        make_all(system, choices)
    except (BadSystem, NotNow):
        return False
    return parts_from_twin(system)


def parts_from_twin(system):
    """Whether a system parts from its twin."""
    try:
        twin = twin_of(system)
    except NotNow:
        return True
    return raised_log(system) != raised_log(twin) or not seen_alike(system, twin)
