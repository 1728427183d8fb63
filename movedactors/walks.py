"""Walks: histories that are walked by terms, and lives that are lived by things."""

from movedactors.controls import started
from movedactors.edges import edge_at
from movedactors.errors import BadPaper, UnknownName
from movedactors.handling import count_makes, first_stand, first_state, mapped_deeds, next_stand, next_state
from movedactors.meanings import value_of
from movedactors.parts import is_row
from movedactors.shapes import is_things, is_words

SELF = ("var", ("self",))


def is_possible(edition, value):
    """Whether a value, which may be anything, is a possible history of the edition."""
    if not is_row(value, 3) or not isinstance(value[2], tuple):
        return False
    role, words, steps = value
    try:
        marks = edition.start(role)[0]
    except UnknownName:
        return False
    if not is_words(edition, marks, words):
        return False
    control = started(edition, role, words)[0]
    for step in steps:
        if control is None or not is_step(edition, control, step):
            return False
        end = edge_at(edition, control, step[0], step[1])[4]
        control = (role, end[1], end[2]) if end[0] == "go" else None
    return True


def is_step(edition, control, value):
    """Whether a value, which may be anything, is a step with a kind that a control takes."""
    if not is_row(value, 2) or value[0] not in edition.taken(control[0], control[1]):
        return False
    return is_words(edition, edition.kind(value[0])[2], value[1])


def walked(edition, history):
    """The pair of the lists of the stands of a history and of the deeds of its steps."""
    if not is_possible(edition, history):
        raise BadPaper()
    role, words, steps = history
    stand = first_stand(edition, role, words, [("var", ("given", x)) for x in edition.start(role)[1]], SELF)
    stands = [stand]
    found = []
    for k, (kind, marking) in enumerate(steps):
        fields = [("var", ("field", k, x)) for x in edition.kind(kind)[3]]
        makes = edge_at(edition, stand[0], kind, marking)[0]
        children = [("var", ("child", k, make[0])) for make in makes]
        stand, deeds = next_stand(edition, stand, kind, marking, fields, children, SELF)
        found.append(deeds)
        if stand is not None:
            stands.append(stand)
    return (stands, found)


def lived(meaning, edition, life, own, supply):
    """The pair of the lists of the states of a life and of the deeds of its steps."""
    if not is_life(edition, life):
        raise BadPaper()
    role, words, things, steps = life
    state = first_state(meaning, edition, role, words, things, own)
    states = [state]
    found = []
    used = 0
    for kind, marking, fields in steps:
        many = count_makes(edge_at(edition, state[0], kind, marking))
        children = supply[used:used + many]
        used += many
        state, deeds = next_state(meaning, edition, state, kind, marking, fields, children, own)
        found.append(deeds)
        if state is not None:
            states.append(state)
    return (states, found)


def is_life(edition, value):
    """Whether a value, which may be anything, is a life with a possible history."""
    if not is_row(value, 4) or not isinstance(value[3], tuple):
        return False
    role, words, things, steps = value
    if not all([is_row(step, 3) for step in steps]):
        return False
    if not is_possible(edition, (role, words, tuple([step[:2] for step in steps]))):
        return False
    if not is_things(things, len(edition.start(role)[1])):
        return False
    return all([is_things(step[2], len(edition.kind(step[0])[3])) for step in steps])


def valued(meaning, deeds, table):
    """The deeds by things that deeds by terms become if each variable stands for its thing."""
    return mapped_deeds(
        deeds,
        lambda child: value_of(meaning, child, table),
        lambda term: value_of(meaning, term, table),
    )
