"""Obligations: what has to hold at joint controls so that rows are right and a role is alike."""

from movedactors.errors import BadPaper
from movedactors.histories import together
from movedactors.papers import SELF_VARIABLE, held_terms, row_equations
from movedactors.plain import is_same_value
from movedactors.solved import Solved
from movedactors.terms import put_in

# An equation that holds nowhere, since these two variables are free.
NEVER = (("var", "one"), ("var", "other"))


class Obligations:
    """Equations that have to hold at the joint controls of a role.

    An obligation is a tuple (pair, equation, steps): what was asked for holds only if the equation holds at the
    joint control, and fails some steps behind it otherwise. Obligations are followed back along what leads to
    their joint controls, those with fewer steps first. So what fails is shown by a history as short as any.
    """

    def __init__(self, joint, role):
        self._joint = joint
        self._leading = joint.leading(role)
        self._begun = joint.begun(role)
        self._solved = {pair: Solved(joint.variables(pair), [SELF_VARIABLE]) for pair in joint.pairs(role)}
        self._failed = {}
        self._failing = None

    def failing(self, asked):
        """A history that shows that not all obligations that are asked for hold, or None if they hold."""
        todo = list(asked)
        many = 0
        while todo and (self._failing is None or many < len(self._failing[2])):
            later = [row for row in todo if len(row[2]) > many]
            for pair, equation, steps in todo:
                if len(steps) == many and pair not in self._failed:
                    later.extend(self._added(pair, equation, steps))
            todo = later
            many += 1
        return self._failing

    def paper(self):
        """The paper of all obligations, once it is known that they hold."""
        return tuple([(pair, tuple(self._solved[pair].equations())) for pair in self._solved])

    def _added(self, pair, equation, steps):
        """Adds an obligation, and returns the list of those ahead of what leads to its joint control.

        Where it cannot hold beside the earlier ones, some obligation fails behind each history that leads there:
        behind a shortest one this one, or an earlier one, which is followed back by itself.
        """
        told = self._solved[pair].made_equal(equation[0], equation[1])
        if told == "had":
            return []
        if told == "never":
            self._failed[pair] = True
            history = self._joint.history_of(pair)
            self._note(pair, equation, history, together(self._joint, history)[1], steps)
            return []
        for words, begun, terms in self._begun:
            if begun == pair:
                self._note(pair, equation, (pair[0][0], words, ()), terms, steps)
        found = []
        for earlier, arrival, terms in self._leading[pair]:
            held = held_terms(self._joint, pair, terms)
            found.append((earlier, (put_in(equation[0], held), put_in(equation[1], held)), (arrival,) + steps))
        return found

    def _note(self, pair, equation, history, terms, steps):
        """Notes that steps behind a history show what fails, if an equation does not hold by the terms behind it."""
        if holds_by(equation, held_terms(self._joint, pair, terms)):
            return
        role, words, first_steps = history
        if self._failing is None or len(first_steps + steps) < len(self._failing[2]):
            self._failing = (role, words, first_steps + steps)


def holds_by(equation, held):
    """Whether the two sides of an equation are the same term when the terms of a table are put in."""
    return is_same_value(put_in(equation[0], held), put_in(equation[1], held))


def asked_by_row(joint, row):
    """The list of the obligations that a row makes."""
    control, mode, words, terms = row
    expected = (joint.change().of_role(control[0])[1], mode, words)
    found = []
    for pair in joint.pairs(control[0]):
        if pair[0] == control and pair[1] == expected:
            found.extend([(pair, equation, ()) for equation in row_equations(joint, pair, terms)])
        elif pair[0] == control:
            found.append((pair, NEVER, ()))
    return found


def asked_by_role(joint, role):
    """The list of the obligations that hold if a role is alike."""
    found = []
    for pair in joint.pairs(role):
        old_heeds, new_heeds = joint.heeds(pair)
        if old_heeds != new_heeds:
            found.append((pair, NEVER, ()))
        for arrival in joint.arrivals(pair):
            place, demands, _ = joint.meeting(pair, arrival[0], arrival[1])
            if place is not None:
                demands = (NEVER,)
            found.extend([(pair, demand, (arrival,)) for demand in demands])
    return found


def decide_role(joint, role):
    """("alike", paper) with a paper that shows that a role is alike, or ("unlike", history)."""
    obligations = Obligations(joint, role)
    history = obligations.failing(asked_by_role(joint, role))
    if history is not None:
        return ("unlike", history)
    return ("alike", obligations.paper())


def decide_row(joint, row):
    """("right", paper) with a paper that shows a row, or ("wrong", history) with one behind which it fails."""
    obligations = Obligations(joint, row[0][0])
    history = obligations.failing(asked_by_row(joint, row))
    if history is not None:
        return ("wrong", history)
    return ("right", obligations.paper())


def whole_paper(joint, role, rows):
    """One paper that shows rows for controls of a role, and that the role is alike if it is."""
    asked = [obligation for row in rows for obligation in asked_by_row(joint, row)]
    if decide_role(joint, role)[0] == "alike":
        asked.extend(asked_by_role(joint, role))
    obligations = Obligations(joint, role)
    if obligations.failing(asked) is not None:
        raise BadPaper()
    return obligations.paper()
