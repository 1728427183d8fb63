"""Squares: whether an actor does the same whether it moves ahead of a message or behind it."""

from movedactors.controls import controls
from movedactors.edges import edge, put_in_all
from movedactors.errors import BadChange, NoControl
from movedactors.handling import behind_deeds, first_stand, mapped_deeds
from movedactors.meanings import value_of
from movedactors.meetings import both_deeds, held_variables, terms_of
from movedactors.plain import is_same_value
from movedactors.raising import raised_deeds
from movedactors.terms import put_in
from movedactors.walks import SELF

SQUARE_WORDS = ("makes", "links", "watches", "sends", "end")


def all_controls(edition):
    """The list of the controls of all roles of an edition, in order."""
    return [control for role in edition.roles() for control in controls(edition, role[0])]


def is_total(change):
    """Whether a change has a row for each control of each role of the old edition."""
    return len(change.rows()) == len(all_controls(change.old()))


def require_total(change):
    """Raises BadChange((2,)) if a change is not total."""
    if not is_total(change):
        raise BadChange((2,))


def moved_state(meaning, change, state, own):
    """The state to which the row of its control leads a state of an actor with an address."""
    control, row, table = row_at(change, state, own)
    return (control, tuple([value_of(meaning, term, table) for term in row[3]]))


def moved_stand(change, stand, own):
    """The stand to which the row of its control leads a stand of an actor that is told by a term."""
    control, row, table = row_at(change, stand, own)
    return (control, put_in_all(row[3], table))


def row_at(change, held, own):
    """The new control for a stand or a state, the row of its control, and the table of what stands for variables."""
    control, worths = held
    row = change.row(control)
    if row is None:
        raise NoControl(control)
    role, mode, _ = control
    table = {("register", x): worth for x, worth in zip(change.old().mode(role, mode)[2], worths)}
    table[SELF[1]] = own
    return ((change.of_role(role)[1], row[1], row[2]), row, table)


def square(change, control, kind, words):
    """The word of the square of an arrow, or None if the square is closed."""
    require_total(change)
    edge(change.old(), control, kind, words)
    one, other = pictures(change, control, kind, tuple(words))
    if other is None:
        return "takes"
    for k, word in enumerate(SQUARE_WORDS):
        if not is_same_value(one[k], other[k]):
            return word
    return None


def pictures(change, control, kind, words):
    """What an actor of the old edition does at an arrow, moved, and what it does if it has moved before.

    Each is a tuple with what belongs to the words of squares, in order, over the registers ("old", x); the second
    one is None if the new control does not take the new kind.
    """
    stand = (control, terms_of(held_variables(change.old(), control, "old")))
    new_control, held = moved_stand(change, stand, SELF)
    old, new = both_deeds(change, (control, new_control), kind, words)
    makes = tuple([moved_stand(change, child_stand(change.old(), make), make[0]) for make in old[0]])
    follower = behind_deeds(control, old)
    if follower is not None:
        follower = moved_stand(change, follower, SELF)
    first = (makes, old[1], old[2], raised_deeds(change, old)[3], end_of(old, follower))
    if new is None:
        return (first, None)
    table = {variable: term for variable, term in zip(held_variables(change.new(), new_control, "new"), held)}
    new = mapped_deeds(
        new,
        lambda child: child,
        lambda term: put_in(term, table),
    )
    makes = tuple([child_stand(change.new(), make) for make in new[0]])
    return (first, (makes, new[1], new[2], new[3], end_of(new, behind_deeds(new_control, new))))


def child_stand(edition, make):
    """The stand in which the child of a make of deeds begins."""
    return first_stand(edition, make[1], make[2], make[3], make[0])


def end_of(deeds, follower):
    """The end of deeds as a picture has it, with the stand behind them, or None if they do not go."""
    return deeds[4] if follower is None else ("go", follower)


def picture_terms(picture):
    """The list of the terms of a picture."""
    makes, links, watches, sends, end = picture
    found = [term for _, terms in makes for term in terms]
    found.extend(links + watches)
    for send in sends:
        found.append(send[0])
        found.extend(send[3])
    if end[0] == "go":
        found.extend(end[1][1])
    return found
