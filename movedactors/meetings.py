"""What the old code and the new code of a change do at an arrival, over the variables of a joint control."""

from movedactors.controls import takes
from movedactors.edges import edge_at
from movedactors.handling import behind_deeds, child_table, edge_table, put_edge
from movedactors.raising import changed_terms, raised_deeds
from movedactors.walks import SELF


def held_variables(edition, control, word):
    """The list of the variables (word, x) for the thing registers x of a control's mode, in order."""
    return [(word, x) for x in edition.mode(control[0], control[1])[2]]


def joint_variables(change, pair):
    """The list of the variables of a joint control."""
    return held_variables(change.old(), pair[0], "old") + held_variables(change.new(), pair[1], "new")


def terms_of(variables):
    """The list of the terms that variables are."""
    return [("var", variable) for variable in variables]


def both_deeds(change, pair, kind, words):
    """The pair of the deeds of the old edge and of those of the new edge, or None if there is no new edge.

    A child that only the new edge makes, as its child number j, is the variable ("child", j).
    """
    old_edge = edge_at(change.old(), pair[0], kind, words)
    fields = terms_of([("field", x) for x in change.old().kind(kind)[3]])
    children = terms_of([("child", make[0]) for make in old_edge[0]])
    old = deeds_of(change.old(), old_edge, (pair[0], "old"), (kind, fields), children)
    new_kind, new_words, new_fields = changed_terms(change, kind, words, fields)
    if not takes(change.new(), pair[1], new_kind):
        return (old, None)
    new_edge = edge_at(change.new(), pair[1], new_kind, new_words)
    children = children + terms_of([("child", j) for j in range(len(children), len(new_edge[0]))])
    return (old, deeds_of(change.new(), new_edge, (pair[1], "new"), (new_kind, new_fields), children))


def deeds_of(edition, told, held, message, children):
    """The deeds of an edge, for a pair (control, word of its variables) and a pair (kind, terms of its fields)."""
    control, word = held
    kind, fields = message
    table = edge_table(edition, (control, terms_of(held_variables(edition, control, word))), kind, fields, SELF)
    table.update(child_table(told, children))
    return put_edge(told, table)


def met_at(change, pair, kind, words):
    """The tuple (place, demands, going) for an arrival at a joint control."""
    old, new = both_deeds(change, pair, kind, words)
    if new is None:
        return ("port", (), None)
    raised = raised_deeds(change, old)
    place = first_place(raised, new)
    demands = tuple(list(zip(deed_terms(raised), deed_terms(new)))) if place is None else ()
    return (place, demands, going_of(pair, old, new))


def going_of(pair, old, new):
    """The joint control behind an arrival and the terms of its variables, or None if the arrival does not go on."""
    if old[4][0] != "go" or new[4][0] != "go" or len(old[0]) != len(new[0]):
        return None
    old_control, old_terms = behind_deeds(pair[0], old)
    new_control, new_terms = behind_deeds(pair[1], new)
    return ((old_control, new_control), old_terms + new_terms)


def first_place(raised, new):
    """The first place at which the raised deeds of the old edge and the new deeds are unlike, or None.

    The terms do not count here, and that the new control takes the new kind is known.
    """
    if heads(raised[0]) != heads(new[0]):
        return "makes"
    if len(raised[1]) != len(new[1]):
        return "links"
    if len(raised[2]) != len(new[2]):
        return "watches"
    if heads(raised[3]) != heads(new[3]):
        return "sends"
    if raised[4][0] == "go" and new[4][0] == "go":
        return None
    return None if raised[4] == new[4] else "end"


def heads(rows):
    """The list of the names and words of makes or sends."""
    return [row[1:3] for row in rows]


def deed_terms(deeds):
    """The list of the terms of deeds but those of the end: of the makes, without the children, and so on."""
    makes, links, watches, sends, _ = deeds
    found = [term for make in makes for term in make[3]]
    found.extend(links)
    found.extend(watches)
    for send in sends:
        found.append(send[0])
        found.extend(send[3])
    return found
