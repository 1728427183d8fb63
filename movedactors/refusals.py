"""Refusals: what shows that an old control has no derived move."""

from movedactors.defining import fitted, held_by, new_names, require_met
from movedactors.errors import BadPaper
from movedactors.firsts import is_address
from movedactors.histories import raised_life, together
from movedactors.meanings import Meaning, by_classes, value_of
from movedactors.parts import is_row, is_told
from movedactors.terms import folded
from movedactors.walks import SELF, is_life, lived, walked


class Side:
    """One of two open histories whose variables are told apart by a number, except that of the actor itself."""

    def __init__(self, joint, history, number):
        self.pair, terms = together(joint, history)
        olds, news = held_by(joint, self.pair, terms)
        old = joint.change().old()
        self._role, self._words, self._steps = history
        self._given = apart([("var", ("given", x)) for x in old.start(self._role)[1]], number)
        fields = [[("var", ("field", k, x)) for x in old.kind(step[0])[3]] for k, step in enumerate(self._steps)]
        self._fields = [apart(row, number) for row in fields]
        made = [make[0] for deeds in walked(old, history)[1] for make in deeds[0]]
        self._children = apart(made, number)
        self.olds = apart(olds, number)
        self.news = apart(news, number)

    def all_terms(self):
        """The list of the terms that registers hold, and of all variables of the history."""
        fields = [field for row in self._fields for field in row]
        return self.olds + self.news + self._given + fields + self._children

    def lived_pair(self, values):
        """The pair of the life and the supply, where a table tells the things of the variables."""
        steps = [step + (things_of(row, values),) for step, row in zip(self._steps, self._fields)]
        life = (self._role, self._words, things_of(self._given, values), tuple(steps))
        return (life, things_of(self._children, values))

    def new_state(self, meaning, values):
        """The last state of the new code."""
        return (self.pair[1], tuple([value_of(meaning, term, values) for term in self.news]))


def apart(terms, number):
    """The list of terms in which each variable but that of the actor itself has a number at its end."""
    return [folded(
        term,
        lambda part: part if part == SELF else ("var", part[1] + (number,)),
        lambda part, members: ("of", part[1], members),
    ) for term in terms]


def things_of(terms, values):
    """The tuple of the things of terms that are variables."""
    return tuple([values[term[1]] for term in terms])


def lost(joint, one, other):
    """A refusal ("lost", ..) with lives of two open histories, or None if they cannot be lost."""
    first = Side(joint, one, 0)
    second = Side(joint, other, 1)
    if first.pair[0] != second.pair[0]:
        return None
    meaning, values = by_classes(list(zip(first.olds, second.olds)), first.all_terms() + second.all_terms(), {})
    own = values[SELF[1]]
    pairs = [side.lived_pair(values) for side in (first, second)]
    if not all([are_different(supply + (own,)) for _, supply in pairs]):
        return None
    if first.new_state(meaning, values) == second.new_state(meaning, values):
        return None
    return ("lost", meaning, own, pairs[0], pairs[1])


def are_different(things):
    """Whether things are all different."""
    return len(set(things)) == len(things)


def stands(joint, control, refusal):
    """Whether a refusal, which may be anything, stands for an old control that is met."""
    require_met(joint, control)
    if is_told(refusal, "controls", 3):
        first, second = [pair_behind(joint, history) for history in refusal[1:]]
        return leads_to(first, control) and leads_to(second, control) and first[1] != second[1]
    if is_told(refusal, "terms", 3):
        return is_unfit(joint, control, refusal[1], refusal[2])
    return is_told(refusal, "lost", 5) and is_lost(joint, control, refusal)


def pair_behind(joint, history):
    """The joint control to which a history, which may be anything, leads, or None if it is not open."""
    try:
        pair, _ = together(joint, history)
    except BadPaper:
        return None
    return pair


def leads_to(pair, control):
    """Whether a joint control, or None, has an old control."""
    return pair is not None and pair[0] == control


def is_unfit(joint, control, name, histories):
    """Whether no term fits a register for histories; both may be anything."""
    if not isinstance(histories, tuple) or not histories:
        return False
    pairs = [pair_behind(joint, history) for history in histories]
    if not leads_to(pairs[0], control) or not all([pair == pairs[0] for pair in pairs]):
        return False
    names = new_names(joint, pairs[0])
    return name in names and fitted(joint, histories)[names.index(name)] is None


def is_lost(joint, control, refusal):
    """Whether a tuple of five members tells two lives that no move from their last state is right for."""
    _, meaning, own, one, other = refusal
    if not isinstance(meaning, Meaning) or not is_address(own):
        return False
    if not is_lived_pair(joint, control, own, one) or not is_lived_pair(joint, control, own, other):
        return False
    first_old, first_new = last_states(joint, meaning, own, one)
    second_old, second_new = last_states(joint, meaning, own, other)
    return first_old == second_old and first_new != second_new


def is_lived_pair(joint, control, own, value):
    """Whether a value, which may be anything, is a life that leads to a control, with the children's addresses."""
    old = joint.change().old()
    if not is_row(value, 2) or not is_life(old, value[0]) or not isinstance(value[1], tuple):
        return False
    life, supply = value
    history = history_of_life(life)
    if not leads_to(pair_behind(joint, history), control) or not all([is_address(address) for address in supply]):
        return False
    children = [make for deeds in walked(old, history)[1] for make in deeds[0]]
    return len(supply) == len(children) and are_different(supply + (own,))


def history_of_life(life):
    """The history of a life."""
    role, words, _, steps = life
    return (role, words, tuple([step[:2] for step in steps]))


def last_states(joint, meaning, own, pair):
    """The pair of the last state of the old code in a life and that of the new code in the changed life."""
    life, supply = pair
    change = joint.change()
    old_states, _ = lived(meaning, change.old(), life, own, supply)
    new_states, _ = lived(meaning, change.new(), raised_life(meaning, change, life), own, supply)
    return (old_states[-1], new_states[-1])
