"""Logs: which are true, what was before, and which rows can be exchanged."""

from movedactors.choices import can, make, make_all
from movedactors.parts import is_list, is_row
from movedactors.plain import is_same_value


def first_false(system, rows):
    """None if rows, which may be anything, are true for a system, otherwise the number of the first false one."""
    if not is_list(rows):
        return 0
    other = system.twin()
    for k, row in enumerate(rows):
        if not is_row(row, 2) or not can(other, row[0]) or not is_same_value(make(other, row[0]), row[1]):
            return k
    return None


def as_was(system, many):
    """A new system: the beginning of a system behind the first so many choices of its log."""
    other = system.beginning()
    make_all(other, [row[0] for row in system.log()[:many]])
    return other


def touched(row):
    """The list of the items that a row of a log touches, each once."""
    choice, events = row
    word = choice[0]
    if "out" in [event[0] for event in events]:
        return [("all",)]
    if word == "post":
        return [("road", 0)]
    if word == "bring":
        return touched_by_bring(choice, events)
    if word == "take":
        return touched_by_take(choice, events)
    if word == "link":
        return [("links",), ("place", choice[1])]
    if word == "watch":
        return [("watches",), ("place", choice[1])]
    if word == "move":
        return [("state", choice[1])]
    return [("team", choice[1])]


def touched_by_bring(choice, events):
    """The list of the items that a bring touches."""
    _, sender, receiver = choice
    queues = [("queue", receiver, event[1]) for event in events if event[0] == "queued"]
    return [("road", sender), ("place", receiver)] + queues


def touched_by_take(choice, events):
    """The list of the items that a take touches in which nobody goes."""
    _, address, port = choice
    items = [("state", address), ("queue", address, port), ("road", address)]
    children = [event[1] for event in events if event[0] == "made"]
    for child in children:
        items.extend([("place", child), ("state", child)])
    if children:
        items.append(("supply",))
    words = [event[0] for event in events]
    if "linked" in words:
        items.append(("links",))
    if "watched" in words:
        items.append(("watches",))
    return items


def are_apart(one, other):
    """Whether two rows of logs are apart."""
    items = touched(one)
    others = touched(other)
    if ("all",) in items or ("all",) in others:
        return False
    return not any([item in others for item in items])
