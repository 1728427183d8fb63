"""Edges, arrows, and the controls that histories reach."""

from movedactors.controls import controls, is_control, is_marking, known_words, markings
from movedactors.controls import said_words, sorted_variables, started, starts, takes, walk_end
from movedactors.errors import BadControl, BadWords, NotNow
from movedactors.parts import is_list
from movedactors.terms import put_in


def edge(edition, control, kind, words):
    """The edge of a control, a kind and words."""
    if not takes(edition, control, kind):
        raise NotNow()
    if not is_marking(edition.book(), edition.kind(kind)[2], words):
        raise BadWords()
    return edge_at(edition, control, kind, words)


def edge_at(edition, control, kind, words):
    """The edge of a control that takes a kind."""
    role, name, marking = control
    mode = edition.mode(role, name)
    fields = edition.kind(kind)
    known = known_words(mode[1], marking)
    known.update(known_words(fields[2], words))
    leaf = walk_end(edition.body(role, name, kind), known)
    table = sorted_variables("register", mode[2])
    table.update(sorted_variables("field", fields[3]))
    table.update(sorted_variables("child", [make[0] for make in leaf[1]]))
    table["self"] = ("var", ("self",))
    return said_leaf(leaf, known, table)


def said_leaf(leaf, known, table):
    """A leaf as an edge, where tables tell the words of the marks and what is put in for the variables."""
    _, makes, links, watches, sends, end = leaf
    if end[0] == "go":
        end = end[:2] + said_row(end, known, table)
    return (
        tuple([make[:2] + said_row(make, known, table) for make in makes]),
        put_in_all(links, table),
        put_in_all(watches, table),
        tuple([(put_in(send[0], table), send[1]) + said_row(send, known, table) for send in sends]),
        end,
    )


def said_row(row, known, table):
    """The mark words and the terms at the positions 2 and 3 of a row, as an edge has them."""
    return (said_words(row[2], known), put_in_all(row[3], table))


def put_in_all(terms, table):
    """The tuple of the terms that result when a table is put in."""
    return tuple([put_in(term, table) for term in terms])


def arrows(edition, role):
    """The list of the arrows of a role, in order."""
    return [arrow for control in controls(edition, role) for arrow in arrows_at(edition, control)]


def arrows_at(edition, control):
    """The list of the arrows with a control, in order."""
    found = []
    for kind in edition.taken(control[0], control[1]):
        for words in markings(edition.book(), edition.kind(kind)[2]):
            found.append((control, kind, words, edge_at(edition, control, kind, words)))
    return found


def behind(arrow):
    """The control to which an arrow leads, or None."""
    end = arrow[3][4]
    if end[0] != "go":
        return None
    return (arrow[0][0], end[1], end[2])


def first_history(edition, control):
    """A possible history to a control that comes to no control twice, or None if none leads to it."""
    if not is_control(edition, control):
        raise BadControl()
    return histories(edition, control[0]).get(control)


def histories(edition, role):
    """The table of a shortest possible history to each reached control of a role."""
    found = {}
    for words in starts(edition, role):
        found.setdefault(started(edition, role, words)[0], (role, words, ()))
    todo = list(found)
    while todo:
        coming = []
        for control in todo:
            _, words, steps = found[control]
            for arrow in arrows_at(edition, control):
                follower = behind(arrow)
                if follower is not None and follower not in found:
                    found[follower] = (role, words, steps + ((arrow[1], arrow[2]),))
                    coming.append(follower)
        todo = coming
    return found


def reached(edition, role):
    """The list of the reached controls of a role, in order."""
    found = histories(edition, role)
    return [control for control in controls(edition, role) if control in found]


def judge_shut(edition, role, value):
    """Whether a value, which may be anything, is a shut set of a role."""
    needed = [started(edition, role, words)[0] for words in starts(edition, role)]
    if not is_list(value):
        return False
    known = controls(edition, role)
    if not all([control in known for control in value]):
        return False
    held = {control: True for control in value}
    for control in value:
        needed.extend([behind(arrow) for arrow in arrows_at(edition, control) if arrow[3][4][0] == "go"])
    return len(held) == len(value) and all([control in held for control in needed])
