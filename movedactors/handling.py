"""Handling: edges that are carried out by terms and by things, and the stands and states behind them."""

from movedactors.controls import started
from movedactors.edges import edge
from movedactors.meanings import value_of
from movedactors.terms import put_in


def put_edge(told, table):
    """The deeds of an edge by terms."""
    return mapped_deeds(
        told,
        lambda child: table[("child", child)],
        lambda term: put_in(term, table),
    )


def value_edge(meaning, told, table):
    """The deeds of an edge by things."""
    return mapped_deeds(
        told,
        lambda child: table[("child", child)],
        lambda term: value_of(meaning, term, table),
    )


def count_makes(told):
    """The number of the makes of an edge."""
    return len(told[0])


def mapped_deeds(deeds, of_child, of_term):
    """Deeds with of_child(child) in the place of the child of each make, and of_term(term) in that of each term."""
    makes, links, watches, sends, end = deeds
    if end[0] == "go":
        end = end[:3] + (mapped(end[3], of_term),)
    return (
        tuple([(of_child(make[0]), make[1], make[2], mapped(make[3], of_term)) for make in makes]),
        mapped(links, of_term),
        mapped(watches, of_term),
        tuple([(of_term(send[0]), send[1], send[2], mapped(send[3], of_term)) for send in sends]),
        end,
    )


def mapped(terms, of_term):
    """The tuple of what of_term makes of each term."""
    return tuple([of_term(term) for term in terms])


def first_stand(edition, role, words, terms, own):
    """The stand of the beginning of a role, for the terms of the thing parameters and of the actor itself."""
    control, begun = started(edition, role, words)
    table = start_table(edition, role, terms, own)
    return (control, mapped(begun, lambda term: put_in(term, table)))


def first_state(meaning, edition, role, words, things, own):
    """The state of the beginning of a role, for the things of the thing parameters and the actor's address."""
    control, begun = started(edition, role, words)
    table = start_table(edition, role, things, own)
    return (control, mapped(begun, lambda term: value_of(meaning, term, table)))


def start_table(edition, role, worths, own):
    """The table of what stands for the variables of a beginning."""
    table = {("given", x): worth for x, worth in zip(edition.start(role)[1], worths)}
    table[("self",)] = own
    return table


def next_stand(edition, stand, kind, words, terms, children, own):
    """The pair of the stand behind the deeds of an edge, or None, and these deeds."""
    told = edge(edition, stand[0], kind, words)
    table = edge_table(edition, stand, kind, terms, own)
    table.update(child_table(told, children))
    deeds = put_edge(told, table)
    return (behind_deeds(stand[0], deeds), deeds)


def next_state(meaning, edition, state, kind, words, things, children, own):
    """The pair of the state behind the deeds of an edge, or None, and these deeds."""
    told = edge(edition, state[0], kind, words)
    table = edge_table(edition, state, kind, things, own)
    table.update(child_table(told, children))
    deeds = value_edge(meaning, told, table)
    return (behind_deeds(state[0], deeds), deeds)


def edge_table(edition, stand, kind, worths, own):
    """The table of what stands for the variables of an edge but its children, at a stand or a state."""
    (role, mode, _), held = stand
    table = {("register", x): worth for x, worth in zip(edition.mode(role, mode)[2], held)}
    table.update({("field", x): worth for x, worth in zip(edition.kind(kind)[3], worths)})
    table[("self",)] = own
    return table


def child_table(told, children):
    """The table of what stands for the children of an edge, the first ones being used in order."""
    return {("child", make[0]): child for make, child in zip(told[0], children)}


def behind_deeds(control, deeds):
    """The stand or the state behind deeds that begin in a control, or None if they do not go on."""
    end = deeds[4]
    if end[0] != "go":
        return None
    return ((control[0], end[1], end[2]), end[3])
