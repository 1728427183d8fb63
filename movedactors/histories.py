"""Histories along which the old code and the new code of a change are walked together."""

from movedactors.errors import BadPaper
from movedactors.meanings import unlike
from movedactors.meetings import both_deeds, deed_terms
from movedactors.parts import is_row
from movedactors.plain import is_same_value
from movedactors.raising import changed_message, changed_start, raised_deeds
from movedactors.shapes import is_filled, is_start, is_words
from movedactors.terms import folded, put_in

LOW_THINGS = 100


class Walk:
    """A history along which both codes are walked as far as its arrivals come next and go on.

    The positions are pairs of a joint control and the terms of its variables: the first one is where the codes
    begin, and each step that goes on leads to one more.
    """

    def __init__(self, joint, history):
        if not is_history(joint.change().old(), history):
            raise BadPaper()
        role, words, steps = history
        self._joint = joint
        self._steps = steps
        self._positions = [begun[1:] for begun in joint.begun(role) if begun[0] == words]
        for k in range(len(steps)):
            going = self.meeting(k)[2] if self.comes_next(k) else None
            if going is None:
                break
            self._positions.append((going[0], self.walked(k, going[1])))

    def is_open(self):
        """Whether each arrival comes next and goes on."""
        return len(self._positions) == len(self._steps) + 1

    def is_led_to_last(self):
        """Whether there is a last step that comes next, and the history without it is open."""
        return 0 < len(self._steps) <= len(self._positions) and self.comes_next(len(self._steps) - 1)

    def many(self):
        """The number of the steps."""
        return len(self._steps)

    def position(self, k):
        """The joint control and the terms of its variables ahead of a step, or behind all of them."""
        return self._positions[k]

    def comes_next(self, k):
        """Whether a step is an arrival that comes next at its position."""
        return self._steps[k] in self._joint.arrivals(self._positions[k][0])

    def meeting(self, k):
        """The tuple (place, demands, going) for a step."""
        kind, words = self._steps[k]
        return self._joint.meeting(self._positions[k][0], kind, words)

    def deeds(self, k):
        """The deeds of the old edge of a step and those of the new one, or None, over the joint control."""
        kind, words = self._steps[k]
        return both_deeds(self._joint.change(), self._positions[k][0], kind, words)

    def walked(self, k, terms):
        """The tuple of the terms over the variables of the walk that terms at a step are."""
        pair, held = self._positions[k]
        table = {variable: term for variable, term in zip(self._joint.variables(pair), held)}
        return tuple([folded(
            term,
            lambda part: walked_part(part, table, k),
            lambda part, members: ("of", part[1], members),
        ) for term in terms])


def walked_part(part, table, k):
    """The term over the variables of the walk that a variable at step k is, where a table tells what is held."""
    variable = part[1]
    if variable[0] == "field" or variable[0] == "child":
        return ("var", (variable[0], k, variable[1]))
    return table.get(variable, part)


def is_history(edition, value):
    """Whether a value, which may be anything, has a role, words of its start and a tuple of steps."""
    if not is_row(value, 3) or not isinstance(value[2], tuple):
        return False
    names = [role[0] for role in edition.roles()]
    return value[0] in names and is_words(edition, edition.start(value[0])[0], value[1])


def together(joint, history):
    """The pair of the joint control where the codes stand behind an open history and the terms of its variables."""
    walk = Walk(joint, history)
    if not walk.is_open():
        raise BadPaper()
    return walk.position(walk.many())


def unlike_place(joint, history):
    """The first word at which a history, which may be anything, is unlike, or None."""
    if not is_history(joint.change().old(), history):
        return None
    walk = Walk(joint, history)
    if walk.is_open():
        old_heeds, new_heeds = joint.heeds(walk.position(walk.many())[0])
        if old_heeds != new_heeds:
            return "heeds"
    if not walk.is_led_to_last():
        return None
    last = walk.many() - 1
    place, demands, _ = walk.meeting(last)
    if place is not None:
        return place
    for demand in demands:
        one, other = walk.walked(last, demand)
        if not is_same_value(one, other):
            return "terms"
    return None


def fails(joint, row, history):
    """Whether a history, which may be anything, is open and leads to the control of a row that is wrong behind it."""
    control, mode, words, terms = row
    if not is_history(joint.change().old(), history):
        return False
    walk = Walk(joint, history)
    if not walk.is_open():
        return False
    (old, new), held = walk.position(walk.many())
    if old != control:
        return False
    if new != (joint.change().of_role(control[0])[1], mode, words):
        return True
    return not is_same_value(held[len(held) - len(terms):], row_terms(joint, walk, terms))


def row_terms(joint, walk, terms):
    """The tuple of what the terms of a row for the control behind an open history are there."""
    (old, new), held = walk.position(walk.many())
    variables = joint.variables((old, new))
    table = {("register", name): term for (word, name), term in zip(variables, held) if word == "old"}
    return tuple([put_in(term, table) for term in terms])


def raised_life(meaning, change, life):
    """The life of the newer edition that results from changing the start and the messages of a life."""
    if not is_told_life(change.old(), life):
        raise BadPaper()
    role, words, things, steps = life
    raised_steps = [changed_message(meaning, change, kind, marking, fields) for kind, marking, fields in steps]
    return changed_start(meaning, change, role, words, things) + (tuple(raised_steps),)


def is_told_life(edition, value):
    """Whether a value, which may be anything, is a life of an edition, possible or not."""
    if not is_row(value, 4) or not isinstance(value[3], tuple):
        return False
    role, words, things, steps = value
    if not is_start(edition, role, words, things):
        return False
    return all([is_row(step, 3) and is_filled(edition, step[0], step[1], step[2]) for step in steps])


def parted(joint, history, more):
    """A meaning, a life of a history, an address and a supply, by which different terms have different values."""
    walk = Walk(joint, history)
    if not walk.is_open() and not walk.is_led_to_last():
        raise BadPaper()
    children = [child for k in range(walk.many()) for child in children_of(walk, k)]
    role, words, steps = history
    old = joint.change().old()
    given = [("given", x) for x in old.start(role)[1]]
    fields = [[("field", k, x) for x in old.kind(steps[k][0])[3]] for k in range(len(steps))]
    things = fixed_things(joint, given + [field for row in fields for field in row] + [("self",)] + children)
    meaning, _ = unlike(parted_terms(joint, walk) + list(more), things)
    told = [step + (tuple([things[field] for field in row]),) for step, row in zip(steps, fields)]
    life = (role, words, tuple([things[x] for x in given]), tuple(told))
    return (meaning, life, things[("self",)], [things[child] for child in children])


def children_of(walk, k):
    """The list of the variables of the children that either code makes in a step, in order."""
    old, new = walk.deeds(k)
    makes = old[0]
    if new is not None and len(new[0]) > len(makes):
        makes = new[0]
    return [term[1] for term in walk.walked(k, [make[0] for make in makes])]


def fixed_things(joint, variables):
    """The table of a different thing for each variable, greater than all addresses of slots."""
    low = max([LOW_THINGS] + [slot[0] for slot in joint.change().old().slots()])
    return {variable: low + 1 + k for k, variable in enumerate(variables)}


def parted_terms(joint, walk):
    """The list of the terms that have to differ: those of the last step, and those held ahead of it and behind it."""
    found = []
    last = walk.many() - 1
    if walk.is_open():
        found.extend(walk.position(last + 1)[1])
    if walk.many() == 0:
        return found
    found.extend(walk.position(last)[1])
    old, new = walk.deeds(last)
    for deeds in (old, raised_deeds(joint.change(), old), new):
        if deeds is not None:
            found.extend(walk.walked(last, all_terms(deeds)))
    return found


def all_terms(deeds):
    """The list of all terms of deeds."""
    ends = list(deeds[4][3]) if deeds[4][0] == "go" else []
    return [make[0] for make in deeds[0]] + deed_terms(deeds) + ends
