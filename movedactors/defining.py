"""Defining: the holders of old controls, and the terms over them that fit the registers of new ones."""

from movedactors.controls import is_control
from movedactors.errors import BadPaper, BadTerm, NoControl, UnknownName
from movedactors.fitting import Fitting
from movedactors.histories import together
from movedactors.papers import SELF_VARIABLE
from movedactors.parts import is_list
from movedactors.plain import is_same_value
from movedactors.terms import put_in, wrong_part_over
from movedactors.walks import SELF


def require_met(joint, control):
    """Raises NoControl(control) if a control, which may be anything, is not one of the old edition that is met."""
    if not is_control(joint.change().old(), control) or not pairs_of(joint, control):
        raise NoControl(control)


def pairs_of(joint, control):
    """The list of the reached joint controls of an old control."""
    return [pair for pair in joint.pairs(control[0]) if pair[0] == control]


def holders(joint, control):
    """The list of the holders of an old control that is met."""
    require_met(joint, control)
    return holders_of(joint, control)


def holders_of(joint, control):
    """The list of the holders of an old control."""
    names = joint.change().old().mode(control[0], control[1])[2]
    return [("register", x) for x in names] + [SELF_VARIABLE]


def new_names(joint, pair):
    """The list of the names of the thing registers of the new mode of a joint control."""
    return [x for word, x in joint.variables(pair) if word == "new"]


def places(joint, histories):
    """The pair of the joint control to which histories lead, which may be anything, and the list of the terms there."""
    if not is_list(histories) or not histories:
        raise BadPaper()
    found = [together(joint, history) for history in histories]
    pairs = {pair: True for pair, _ in found}
    if len(pairs) > 1:
        raise BadPaper()
    return (found[0][0], [terms for _, terms in found])


def held_by(joint, pair, terms):
    """The pair of the tuples of the terms of the holders and of the new registers, for those of a joint control."""
    many = len(terms) - len(new_names(joint, pair))
    return (terms[:many] + (SELF,), terms[many:])


def fitting_at(joint, pair, rows):
    """The fitting for the terms of a joint control behind some histories."""
    held = [held_by(joint, pair, terms) for terms in rows]
    return Fitting(holders_of(joint, pair[0]), [olds for olds, _ in held], [news for _, news in held])


def fitted(joint, histories):
    """The list of the fitted terms of the thing registers of the new mode, None for a register that has none."""
    pair, rows = places(joint, histories)
    return fitting_at(joint, pair, rows).terms()


def is_fitting(joint, histories, name, term):
    """Whether a term over the holders, which may be anything, fits a register of the new mode for histories."""
    pair, rows = places(joint, histories)
    names = new_names(joint, pair)
    if name not in names:
        raise UnknownName(name)
    known = holders_of(joint, pair[0])
    path = wrong_part_over(joint.change().old().book().primitives(), known, term)
    if path is not None:
        raise BadTerm(path)
    for row in rows:
        olds, news = held_by(joint, pair, row)
        table = {holder: held for holder, held in zip(known, olds)}
        if not is_same_value(put_in(term, table), news[names.index(name)]):
            return False
    return True
