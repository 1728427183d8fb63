"""Part 7 told once more, by walking histories in both editions apart; and changes that rename, but for a mistake."""

import random

from movedactors.changes import Change
from movedactors.controls import markings, started, starts, takes
from movedactors.editions import Edition
from movedactors.errors import BadEdition
from movedactors.edges import edge
from movedactors.handling import put_edge
from movedactors.raising import changed_words, raised_deeds, start_words
from movedactors.walks import is_possible, walked
from randoms import Maker, Renaming
from world import BOOK

SELF = ("var", ("self",))


def sub(term, told):
    """A term in which told(variable) stands for each variable."""
    if term[0] == "var":
        return told(term[1])
    return ("of", term[1], tuple(sub(member, told) for member in term[2]))


def deed_list(deeds):
    """The terms of deeds in the order of the demands, without the children and the end."""
    found = [term for make in deeds[0] for term in make[3]] + list(deeds[1]) + list(deeds[2])
    for send in deeds[3]:
        found += [send[0]] + list(send[3])
    return found


def place_of(change, old_deeds, new_deeds):
    """The first place at which deeds are unlike; None for the new ones if the kind is not taken."""
    if new_deeds is None:
        return "port"
    makes = [start_words(change, make[1], make[2]) for make in old_deeds[0]]
    if makes != [tuple(make[1:3]) for make in new_deeds[0]]:
        return "makes"
    for k, word in ((1, "links"), (2, "watches")):
        if len(old_deeds[k]) != len(new_deeds[k]):
            return word
    sends = [changed_words(change, send[1], send[2]) for send in old_deeds[3]]
    if sends != [tuple(send[1:3]) for send in new_deeds[3]]:
        return "sends"
    old_end, new_end = [deeds[4] if deeds[4][0] != "go" else ("go",) for deeds in (old_deeds, new_deeds)]
    return None if old_end == new_end else "end"


def meeting(change, pair, kind, words):
    """The place, the demands and the going of an arrival at a joint control."""
    old, new = change.old(), change.new()
    old_edge = edge(old, pair[0], kind, words)
    kids = [make[0] for make in old_edge[0]]
    table = {("self",): SELF}
    table.update({("child", kid): ("var", ("child", kid)) for kid in kids})
    table.update({("register", x): ("var", ("old", x)) for x in old.mode(*pair[0][:2])[2]})
    table.update({("field", x): ("var", ("field", x)) for x in old.kind(kind)[3]})
    old_deeds = put_edge(old_edge, table)
    new_kind, new_words = changed_words(change, kind, words)
    if not takes(new, pair[1], new_kind):
        return ("port", (), None)
    new_edge = edge(new, pair[1], new_kind, new_words)
    terms = [("var", ("field", "who"))] if kind == "gone" else change.of_kind(kind)[3]
    table = {("self",): SELF}
    for k, make in enumerate(new_edge[0]):
        table[("child", make[0])] = ("var", ("child", kids[k] if k < len(kids) else k))
    table.update({("register", x): ("var", ("new", x)) for x in new.mode(*pair[1][:2])[2]})
    table.update({("field", x): term for x, term in zip(new.kind(new_kind)[3], terms)})
    new_deeds = put_edge(new_edge, table)
    place = place_of(change, old_deeds, new_deeds)
    demands = ()
    if place is None:
        demands = tuple(zip(deed_list(raised_deeds(change, old_deeds)), deed_list(new_deeds)))
    going = None
    if old_deeds[4][0] == new_deeds[4][0] == "go" and len(old_deeds[0]) == len(new_deeds[0]):
        controls = tuple((c[0],) + end[1:3] for c, end in zip(pair, (old_deeds[4], new_deeds[4])))
        going = (controls, old_deeds[4][3] + new_deeds[4][3])
    return (place, demands, going)


class Together:
    """A history of the old edition, and what becomes of it in the new one, walked apart."""

    def __init__(self, change, history):
        self.change = change
        role, words, steps = history
        self.steps = steps
        self.is_history = is_possible(change.old(), history)
        if not self.is_history:
            return
        self.old_stands, self.old_deeds = walked(change.old(), history)
        new_role, new_words = start_words(change, role, words)
        self.new_history = (new_role, new_words, tuple(changed_words(change, *step) for step in steps))
        many = len(steps)
        while not is_possible(change.new(), self.new_history[:2] + (self.new_history[2][:many],)):
            many -= 1
        self.many = many
        stands, deeds = walked(change.new(), self.new_history[:2] + (self.new_history[2][:many],))
        self.kids = {}
        for k in range(many):
            olds = [make[0] for make in self.old_deeds[k][0]]
            for j, make in enumerate(deeds[k][0]):
                self.kids[make[0][1]] = olds[j] if j < len(olds) else ("var", ("more", k, j))
        self.role = role
        self.new_stands = [(control, self.terms(terms)) for control, terms in stands]
        self.new_deeds = [(tuple((self.term(make[0]),) + make[1:3] + (self.terms(make[3]),) for make in d[0]),
                           self.terms(d[1]), self.terms(d[2]),
                           tuple((self.term(s[0]),) + s[1:3] + (self.terms(s[3]),) for s in d[3]),
                           d[4][:3] + (self.terms(d[4][3]),) if d[4][0] == "go" else d[4]) for d in deeds]

    def terms(self, terms):
        return tuple(self.term(term) for term in terms)

    def term(self, term):
        """A term over the variables of the new history, over those of the old one."""
        return sub(term, self.variable)

    def variable(self, v):
        change = self.change
        if v[0] == "given":
            row = change.of_role(self.role)
            k = change.new().start(row[1])[1].index(v[1])
            return row[3][k]
        if v[0] == "field":
            kind = self.steps[v[1]][0]
            if kind == "gone":
                return ("var", v)
            row = change.of_kind(kind)
            k = change.new().kind(row[1])[3].index(v[2])
            return sub(row[3][k], lambda w: ("var", ("field", v[1], w[1])))
        if v[0] == "child":
            return self.kids[v]
        return ("var", v)

    def goes_on(self, k):
        """Whether step k is an arrival that goes on, if the ones before it do."""
        return (len(self.old_stands) > k + 1 and self.many > k and len(self.new_stands) > k + 1
                and len(self.old_deeds[k][0]) == len(self.new_deeds[k][0]))

    def is_open(self):
        return self.is_history and all(self.goes_on(k) for k in range(len(self.steps)))

    def is_led_to_last(self):
        return self.is_history and bool(self.steps) and all(self.goes_on(k) for k in range(len(self.steps) - 1))

    def last(self):
        """The joint control behind an open history, and the terms of its variables."""
        old, new = self.old_stands[-1], self.new_stands[-1]
        return ((old[0], new[0]), old[1] + new[1])

    def unlike_place(self):
        if self.is_open():
            (old, new), _ = self.last()
            if self.change.old().mode(*old[:2])[4] != self.change.new().mode(*new[:2])[4]:
                return "heeds"
        if not self.is_led_to_last():
            return None
        k = len(self.steps) - 1
        new_deeds = self.new_deeds[k] if k < self.many else None
        place = place_of(self.change, self.old_deeds[k], new_deeds)
        if place is not None:
            return place
        raised = raised_deeds(self.change, self.old_deeds[k])
        return None if deed_list(raised) == deed_list(new_deeds) else "terms"


def arrivals(change, pair):
    old = change.old()
    return [(kind[0], words) for kind in old.kinds() if takes(old, pair[0], kind[0])
            for words in markings(BOOK, kind[2])]


def reached(change, role):
    """The list of the reached joint controls, and an open history to each."""
    old, found = change.old(), {}
    for words in starts(old, role):
        new_role, new_words = start_words(change, role, words)
        pair = (started(old, role, words)[0], started(change.new(), new_role, new_words)[0])
        found.setdefault(pair, (role, words, ()))
    todo = list(found)
    while todo:
        pair = todo.pop(0)
        for arrival in arrivals(change, pair):
            going = meeting(change, pair, *arrival)[2]
            if going is not None and going[0] not in found:
                found[going[0]] = found[pair][:2] + (found[pair][2] + (arrival,),)
                todo.append(going[0])
    return found


def chosen_history(chosen, change, role, most):
    """A history of the old edition, open or open but for its last step mostly."""
    words = chosen.choice(starts(change.old(), role))
    history = (role, words, ())
    for _ in range(chosen.randrange(most + 1)):
        told = Together(change, history)
        if not told.is_open():
            break
        nexts = arrivals(change, told.last()[0])
        if not nexts:
            break
        history = history[:2] + (history[2] + (chosen.choice(nexts),),)
    return history


def leaves(body, path=()):
    if body[0] == "do":
        return [path]
    return leaves(body[3], path + (3,)) + leaves(body[4], path + (4,))


def replaced(whole, path, part):
    if not path:
        return part
    return whole[:path[0]] + (replaced(whole[path[0]], path[1:], part),) + whole[path[0] + 1:]


def at(whole, path):
    for k in path:
        whole = whole[k]
    return whole


def mistaken(chosen, roles):
    """Roles with one leaf that another leaf of the same role takes a part of, or a mode that heeds otherwise."""
    r = chosen.randrange(len(roles))
    _, modes, start, handlers = roles[r]
    roll = chosen.randrange(8)
    if roll == 0:
        m = chosen.randrange(len(modes))
        return replaced(roles, (r, 1, m, 4), not modes[m][4])
    if roll == 1 or not handlers:
        path = (r, 2, 2) + chosen.choice(leaves(start[2]))
        other = (r, 2, 2) + chosen.choice(leaves(start[2]))
        terms = at(roles, path)[5][3]
        if roll == 1 and len(terms) > 1:
            return replaced(roles, path + (5, 3), terms[::-1])
        return replaced(roles, path, at(roles, other))
    h, g = chosen.randrange(len(handlers)), chosen.randrange(len(handlers))
    path = (r, 3, h, 2) + chosen.choice(leaves(handlers[h][2]))
    other = (r, 3, g, 2) + chosen.choice(leaves(handlers[g][2]))
    k = chosen.choice((1, 2, 3, 4, 5, 5, 5))
    if roll < 5:
        terms = at(roles, path)[5]
        if terms[0] == "go" and len(terms[3]) > 1:
            return replaced(roles, path + (5, 3), terms[3][1:] + terms[3][:1])
    return replaced(roles, path + (k,), at(roles, other)[k])


def almost_renamed(chosen, mistakes, makes=True):
    """A change that renames, with so many mistakes in the new edition."""
    old = Maker(chosen, makes=makes).edition()
    renaming = Renaming(chosen, old, "n")
    roles = renaming.roles
    while mistakes:
        told = mistaken(chosen, roles)
        try:
            Edition(BOOK, renaming.kinds, told, renaming.tree)
        except BadEdition:
            mistakes -= chosen.randrange(2)
            continue
        roles = told
        mistakes -= 1
    new = Edition(BOOK, renaming.kinds, roles, renaming.tree)
    return Change(old, new, renaming.rows_of_kinds(), renaming.rows_of_roles(), renaming.rows())


def some_changes(seed, many, mistakes=(0, 1, 1, 2, 3)):
    chosen = random.Random(seed)
    return [almost_renamed(chosen, chosen.choice(mistakes)) for _ in range(many)]


def bound(joint, role):
    """T: the sum of one more than the number of variables over the reached joint controls of a role."""
    return sum(1 + len(joint.variables(pair)) for pair in joint.pairs(role))


def open_histories(change, role, most):
    """The open histories of a role with at most so many steps, the shorter ones first.

    Of those behind which the codes stand the same way, with all fields and children alike, there is one.
    """
    found = [(role, words, ()) for words in starts(change.old(), role)]
    level = found
    for _ in range(most):
        coming, seen = [], set()
        for history in level:
            for arrival in arrivals(change, Together(change, history).last()[0]):
                longer = history[:2] + (history[2] + (arrival,),)
                walk = Together(change, longer)
                if walk.is_open() and repr(walk.last()) not in seen:
                    seen.add(repr(walk.last()))
                    coming.append(longer)
        found = found + coming
        level = coming
    return found
