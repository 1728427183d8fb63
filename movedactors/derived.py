"""Derived moves: the right rows that follow from the codes alone, and refusals where there is none."""

from movedactors.controls import controls
from movedactors.defining import fitting_at, new_names, pairs_of, places, require_met
from movedactors.obligations import decide_row


def met(joint, role):
    """The list of the old controls of a role that are met, in order."""
    known = {pair[0]: True for pair in joint.pairs(role)}
    return [control for control in controls(joint.change().old(), role) if control in known]


def derived(joint, control):
    """("move", mode, words, terms) if an old control that is met has a derived move, otherwise a refusal."""
    require_met(joint, control)
    pairs = pairs_of(joint, control)
    if len(pairs) > 1:
        return ("controls", joint.history_of(pairs[0]), joint.history_of(pairs[1]))
    return derived_at(joint, pairs[0])


def derived_at(joint, pair):
    """The same for the only joint control of an old control.

    The terms that fit a few histories are tried as a row. Where it is wrong, one more history comes in: then some
    part of a term that fitted is fitted by a later holder, or by what is made of more parts, or not at all.
    """
    names = new_names(joint, pair)
    histories = [joint.history_of(pair)]
    rows = places(joint, histories)[1]
    while True:
        fitting = fitting_at(joint, pair, rows)
        terms = fitting.terms()
        for k, term in enumerate(terms):
            if term is None:
                return ("terms", names[k], tuple([histories[j] for j in fitting.unfit(k)]))
        move = pair[1][1:] + (tuple(terms),)
        told, shown = decide_row(joint, (pair[0],) + move)
        if told == "right":
            return ("move",) + move
        histories.append(shown)
        rows.extend(places(joint, [shown])[1])


def derived_rows(joint, role):
    """The list of the rows of the derived moves of the controls of a role that are met, in order."""
    moves = [(control, derived(joint, control)) for control in met(joint, role)]
    return [(control,) + move[1:] for control, move in moves if move[0] == "move"]
