"""Random editions, editions that are renamed, the changes that lead to these, and systems that run them."""

import random

from movedactors.changes import Change
from movedactors.editions import Edition
from movedactors.meanings import Meaning
from movedactors.systems import System
from world import BOOK, MEANING

SORTS = {"color": ("red", "green"), "size": ("small", "big"), "why": ("ended", "closed", "bad", "worse")}
GONE = ("gone", "gone", (("why", "why"),), ("who",))
PORTS = ("main", "side", "gone")


def term(chosen, names, deep=2):
    """A term over names; each name that is taken may stand again."""
    roll = chosen.randrange(5)
    if deep == 0 or (roll < 3 and names):
        return ("var", chosen.choice(names)) if names else ("of", "nil", ())
    if roll == 3:
        return ("of", "up", (term(chosen, names, deep - 1),))
    if roll == 4:
        return ("of", "pair", (term(chosen, names, deep - 1), term(chosen, names, deep - 1)))
    return ("of", "nil", ())


def go_terms(chosen, many, free, once):
    """Terms in which each name of once stands at most once."""
    left = list(once)
    found = []
    for _ in range(many):
        names = list(free)
        if left and chosen.randrange(3):
            name = left.pop(chosen.randrange(len(left)))
            found.append(chosen.choice([("var", name), ("var", name), ("of", "up", (("var", name),))]))
        else:
            found.append(term(chosen, names, 1))
    return tuple(found)


def words(chosen, marks, scope):
    """Mark words that fit marks, out of the marks of a scope."""
    found = []
    for _, sort in marks:
        known = [name for name, other in scope if other == sort]
        if known and chosen.randrange(2):
            found.append(("mark", chosen.choice(known)))
        else:
            found.append(("word", chosen.choice(SORTS[sort])))
    return tuple(found)


class Maker:
    """Makes a random edition. Kinds and the heads of roles come first, then bodies."""

    def __init__(self, chosen, tree=True, makes=True):
        self.chosen = chosen
        self.may_make = makes
        self.kinds = (
            ("put", "main", (("c", "color"),), ("a", "b")[:chosen.randrange(1, 3)]),
            ("ask", "side", (("s", "size"),) if chosen.randrange(2) else (), ("u",)),
            ("two", chosen.choice(("main", "side")), (), ("v",)),
        )[:chosen.randrange(2, 4)]
        self.heads = [self.head(name) for name in ("ra", "rb")[:chosen.randrange(1, 3)]]
        self.roles = tuple((name, modes, start + (self.start_body(name, modes, start),), self.handlers(name, modes))
                           for name, modes, start in self.heads)
        self.tree = self.slots() if tree else ()

    def edition(self):
        return Edition(BOOK, self.kinds, self.roles, self.tree)

    def head(self, name):
        chosen = self.chosen
        modes = []
        for k in range(chosen.randrange(1, 4)):
            marks = ((f"f{k}", chosen.choice(("color", "size"))),) if chosen.randrange(2) else ()
            ports = [port for port in PORTS if chosen.randrange(3)] or ["main"]
            modes.append((f"m{k}", marks, ("x", "y", "z")[:chosen.randrange(0, 4)], tuple(ports),
                bool(chosen.randrange(2))))
        start = ((("p", "color"),) if chosen.randrange(2) else (), ("i", "j")[:chosen.randrange(3)])
        return (name, tuple(modes), start)

    def start_body(self, name, modes, start):
        def end():
            mode = self.chosen.choice(modes)
            terms = go_terms(self.chosen, len(mode[2]), start[1] + ("self",), ())
            return ("do", (), (), (), (), ("go", mode[0], words(self.chosen, mode[1], start[0]), terms))

        if start[0] and self.chosen.randrange(2):
            return ("if", "p", "red", end(), end())
        return end()

    def handlers(self, name, modes):
        found = []
        for mode in modes:
            for kind in self.kinds + (GONE,):
                if kind[1] in mode[3]:
                    found.append((mode[0], kind[0], self.body(modes, mode, kind, 2)))
        return tuple(found)

    def body(self, modes, mode, kind, deep):
        marks = mode[1] + kind[2]
        if deep and marks and self.chosen.randrange(2):
            name, sort = self.chosen.choice(marks)
            return ("if", name, self.chosen.choice(SORTS[sort]), self.body(modes, mode, kind, deep - 1),
                self.body(modes, mode, kind, deep - 1))
        return self.leaf(modes, mode, kind, marks)

    def leaf(self, modes, mode, kind, marks):
        chosen = self.chosen
        children = ("k", "l")[:chosen.choice((0, 0, 0, 1, 2))] if self.may_make else ()
        names = mode[2] + kind[3] + ("self",) + children
        makes = []
        for child in children:
            role, _, start = chosen.choice(self.heads)
            makes.append((child, role, words(chosen, start[0], marks), tuple(term(chosen, names) for _ in start[1])))
        sends = []
        for _ in range(chosen.randrange(3)):
            other = chosen.choice(self.kinds)
            sends.append((term(chosen, names, 1), other[0], words(chosen, other[2], marks),
                tuple(term(chosen, names) for _ in other[3])))
        roll = chosen.randrange(8)
        if roll < 2:
            end = ("stop",) if roll else ("fail", chosen.choice(("bad", "worse")))
            return ("do", tuple(makes), (), (), tuple(sends), end)
        links, watches = [tuple(term(chosen, names, 1) for _ in range(chosen.choice((0, 0, 1)))) for _ in range(2)]
        goal = chosen.choice(modes)
        free = kind[3] + ("self",) + children
        end = ("go", goal[0], words(chosen, goal[1], marks), go_terms(chosen, len(goal[2]), free, mode[2]))
        return ("do", tuple(makes), links, watches, tuple(sends), end)

    def slots(self):
        chosen = self.chosen

        def slot(address):
            role, _, start = chosen.choice(self.heads)
            marking = tuple(chosen.choice(SORTS[sort]) for _, sort in start[0])
            return ("slot", address, role, marking, tuple(term(chosen, ()) for _ in start[1]))

        way = ("one", "all", "behind")
        inner = ("supervisor", "low", chosen.choice(way), chosen.randrange(2), (slot(3), slot(5)))
        return (("supervisor", "top", chosen.choice(way), chosen.randrange(3), (slot(1), inner, slot(2))),)


class Renaming:
    """An edition with other names, orders and words: for each sort the same words are exchanged everywhere."""

    def __init__(self, chosen, edition, suffix):
        self.chosen = chosen
        self.suffix = suffix
        self.old = edition
        self.table = {}
        for sort in ("color", "size"):
            news = list(SORTS[sort])
            if chosen.randrange(2):
                news.reverse()
            self.table[sort] = dict(zip(SORTS[sort], news))
        self.table["why"] = {word: word for word in SORTS["why"]}
        self.orders = {}
        self.kinds = tuple((self.name(k[0]), k[1]) + self.fields(("kind", k[0]), k[2], k[3])
                           for k in edition.kinds()[:-1])
        self.orders[("kind", "gone")] = ((0,), (0,))
        heads = [self.head(role) for role in edition.roles()]
        self.roles = tuple(self.role(role, head) for role, head in zip(edition.roles(), heads))
        self.tree = self.parts(edition.tree())

    def name(self, name):
        return name if name in ("self", "gone") else name + self.suffix

    def word(self, sort, word):
        return self.table[sort][word]

    def fields(self, key, marks, things):
        """Renamed fields in another order, which is kept."""
        orders = []
        for many in (len(marks), len(things)):
            order = list(range(many))
            self.chosen.shuffle(order)
            orders.append(tuple(order))
        self.orders[key] = tuple(orders)
        return (tuple((self.name(marks[k][0]), marks[k][1]) for k in orders[0]),
                tuple(self.name(things[k]) for k in orders[1]))

    def turned(self, key, part, at):
        return tuple(part[k] for k in self.orders[key][at])

    def head(self, role):
        name, modes, start, _ = role
        new_modes = tuple((self.name(mode[0]),) + self.fields(("mode", name, mode[0]), mode[1], mode[2]) + mode[3:]
                          for mode in modes)
        return (new_modes, self.fields(("start", name), start[0], start[1]))

    def role(self, role, head):
        name, _, (marks, things, body), handlers = role
        new_modes, start = head
        scope = dict(marks)
        rename = {thing: self.name(thing) for thing in things}
        new_start = start + (self.body(name, body, scope, rename),)
        found = []
        for mode, kind, handler in handlers:
            _, mode_marks, mode_things, _, _ = self.old.mode(name, mode)
            _, _, kind_marks, kind_things = self.old.kind(kind)
            rename = {thing: self.name(thing) for thing in mode_things}
            rename.update({thing: thing if kind == "gone" else self.name(thing) for thing in kind_things})
            scope = dict(mode_marks + kind_marks)
            self.gone_marks = ("why",) if kind == "gone" else ()
            found.append((self.name(mode), self.name(kind), self.body(name, handler, scope, rename)))
        return (self.name(name), new_modes, new_start, tuple(found))

    gone_marks = ()

    def mark(self, name):
        return name if name in self.gone_marks else self.name(name)

    def body(self, role, body, scope, rename):
        if body[0] == "if":
            _, mark, word, yes, no = body
            return ("if", self.mark(mark), self.word(scope[mark], word), self.body(role, yes, scope, rename),
                self.body(role, no, scope, rename))
        _, makes, links, watches, sends, end = body
        rename = {**rename, "self": "self"}
        rename.update({make[0]: self.name(make[0]) for make in makes})

        def terms(told):
            return tuple(self.term(one, rename) for one in told)

        new_makes = []
        for child, other, marks, things in makes:
            sorts = [sort for _, sort in self.old.start(other)[0]]
            new_makes.append((self.name(child), self.name(other), self.turned(("start", other), self.mark_words(
                marks, sorts), 0), self.turned(("start", other), terms(things), 1)))
        new_sends = []
        for receiver, kind, marks, things in sends:
            sorts = [sort for _, sort in self.old.kind(kind)[2]]
            new_sends.append((self.term(receiver, rename), self.name(kind), self.turned(("kind", kind), self.mark_words(
                marks, sorts), 0), self.turned(("kind", kind), terms(things), 1)))
        if end[0] == "go":
            sorts = [sort for _, sort in self.old.mode(role, end[1])[1]]
            key = ("mode", role, end[1])
            end = ("go", self.name(end[1]), self.turned(key, self.mark_words(end[2], sorts), 0), self.turned(
                key, terms(end[3]), 1))
        return ("do", tuple(new_makes), terms(links), terms(watches), tuple(new_sends), end)

    def mark_words(self, marks, sorts):
        return tuple(("word", self.word(sort, part[1])) if part[0] == "word" else ("mark", self.mark(part[1]))
                     for part, sort in zip(marks, sorts))

    def term(self, told, rename):
        if told[0] == "var":
            return ("var", rename[told[1]])
        return ("of", told[1], tuple(self.term(member, rename) for member in told[2]))

    def parts(self, parts):
        found = []
        for part in parts:
            if part[0] == "supervisor":
                found.append(part[:4] + (self.parts(part[4]),))
            else:
                _, address, role, marking, terms = part
                sorts = [sort for _, sort in self.old.start(role)[0]]
                news = tuple(self.word(sort, word) for sort, word in zip(sorts, marking))
                key = ("start", role)
                found.append(("slot", address, self.name(role), self.turned(key, news, 0), self.turned(key, terms, 1)))
        return tuple(found)

    def edition(self):
        return Edition(BOOK, self.kinds, self.roles, self.tree)

    def changed(self, marks):
        """The changed mark words, in the old order."""
        return tuple(("mark", name) if all(a == b for a, b in self.table[sort].items())
                     else ("table", name, tuple(self.table[sort][word] and (word, self.table[sort][word])
                     for word in SORTS[sort])) for name, sort in marks)

    def rows_of_kinds(self):
        return [(name, self.name(name), self.turned(("kind", name), self.changed(marks), 0),
                 self.turned(("kind", name), tuple(("var", ("field", x)) for x in things), 1))
                for name, _, marks, things in self.old.kinds()[:-1]]

    def rows_of_roles(self):
        return [(role[0], self.name(role[0]), self.turned(("start", role[0]), self.changed(role[2][0]), 0),
                 self.turned(("start", role[0]), tuple(("var", ("given", x)) for x in role[2][1]), 1))
                for role in self.old.roles()]

    def rows(self):
        found = []
        for role in self.old.roles():
            for mode in role[1]:
                key = ("mode", role[0], mode[0])
                markings = [()]
                for _, sort in mode[1]:
                    markings = [marking + (word,) for marking in markings for word in SORTS[sort]]
                for marking in markings:
                    news = tuple(self.word(sort, word) for (_, sort), word in zip(mode[1], marking))
                    terms = tuple(("var", ("register", x)) for x in mode[2])
                    found.append(((role[0], mode[0], marking), self.name(mode[0]), self.turned(key, news, 0),
                        self.turned(key, terms, 1)))
        return found

    def change(self):
        return Change(self.old, self.edition(), self.rows_of_kinds(), self.rows_of_roles(), self.rows())


def renamed_chain(chosen, many, makes=True):
    """Editions and changes of which each renames the one before; all changes are closed."""
    editions = [Maker(chosen, makes=makes).edition()]
    changes = []
    for k in range(many - 1):
        changes.append(Renaming(chosen, editions[-1], "nt"[k % 2]).change())
        editions.append(changes[-1].new())
    return (editions, changes)


def fuzzy_meaning(chosen):
    """A meaning by which different terms may have one value, and things are often addresses."""
    return Meaning({
        "nil": [((), chosen.randrange(5))], "up": [((k,), chosen.randrange(12)) for k in range(12)],
        "pair": [((k, j), chosen.randrange(12)) for k in range(12) for j in range(12)],
    })


def random_rows(chosen, editions, spare=2, states=False):
    """First actors for the slots of a chain of editions, and some more."""
    slots = [slot[0] for slot in editions[0].slots()]
    rows = []
    for address in slots + [7, 8, 9][:spare]:
        number = chosen.randrange(len(editions))
        role = chosen.choice(editions[number].roles())
        marking = tuple(chosen.choice(SORTS[sort]) for _, sort in role[2][0])
        row = (address, number, role[0], marking, tuple(chosen.randrange(9) for _ in role[2][1]))
        if states and chosen.randrange(2):
            mode = chosen.choice(role[1])
            held = tuple(chosen.choice(SORTS[sort]) for _, sort in mode[1])
            row += (((role[0], mode[0], held), tuple(chosen.randrange(9) for _ in mode[2])),)
        rows.append(row)
    return rows


def random_message(chosen, editions):
    number = chosen.randrange(len(editions))
    kind = chosen.choice(editions[number].kinds())
    marking = tuple(chosen.choice(SORTS[sort]) for _, sort in kind[2])
    return (number, kind[0], marking, tuple(chosen.randrange(12) for _ in kind[3]))


def random_choice(chosen, system, editions, opened):
    """A choice that may be one that can be made; takes, brings, moves and shifts out of the open ones mostly."""
    roll = chosen.randrange(20)
    address = chosen.choice(system.addresses() + [0, 44])
    if roll < 12 and opened:
        return chosen.choice(opened)
    if roll < 17:
        return ("post", address, random_message(chosen, editions))
    if roll < 18:
        return ("kill", address, chosen.choice(SORTS["why"]))
    return (chosen.choice(("link", "watch")), address, chosen.choice(system.addresses() + [0, 44]))


def random_run(chosen, system, many, make, open_choices, can):
    """Makes so many choices in a system."""
    editions = system.editions()
    while many:
        choice = random_choice(chosen, system, editions, open_choices(system))
        if can(system, choice):
            make(system, choice)
            many -= 1


def running(chosen, many=2, makes=True, first=0, states=False):
    editions, changes = renamed_chain(chosen, many, makes)
    supply = chosen.sample(range(20, 40), chosen.randrange(4))
    meaning = chosen.choice([MEANING, fuzzy_meaning(chosen)])
    return System(meaning, editions, changes, supply, random_rows(chosen, editions, states=states), first=first)


class Remembering:
    """An edition whose modes keep one more register than those of another one, which nothing shows."""

    def __init__(self, chosen, edition):
        self.chosen = chosen
        self.old = edition
        self.more = {(role[0], mode[0]): chosen.randrange(3) > 0 for role in edition.roles() for mode in role[1]}
        self.roles = tuple(self.role(role) for role in edition.roles())

    def role(self, role):
        name, modes, (marks, things, body), handlers = role
        new_modes = tuple(mode[:2] + (mode[2] + ("w",) * self.more[(name, mode[0])],) + mode[3:] for mode in modes)
        start = (marks, things, self.body(name, body, things + ("self",), ()))
        found = []
        for mode, kind, handler in handlers:
            once = self.old.mode(name, mode)[2] + ("w",) * self.more[(name, mode)]
            fields = self.old.kind(kind)[3]
            found.append((mode, kind, self.body(name, handler, fields + ("self",), once)))
        return (name, new_modes, start, tuple(found))

    def body(self, role, body, free, once):
        if body[0] == "if":
            return body[:3] + (self.body(role, body[3], free, once), self.body(role, body[4], free, once))
        end = body[5]
        if end[0] != "go" or not self.more[(role, end[1])]:
            return body
        left = [name for name in once if not any(stands_in(name, told) for told in end[3])]
        free = free + tuple(make[0] for make in body[1])
        return body[:5] + (end[:3] + (end[3] + (self.term(free, left),),),)

    def term(self, free, left):
        names = left if left and self.chosen.randrange(3) else free
        told = ("var", self.chosen.choice(names)) if names else ("of", "nil", ())
        return ("of", "up", (told,)) if self.chosen.randrange(3) == 0 else told

    def change(self):
        """The change to this edition, with some rows, right or not."""
        kinds, roles = same_rows(self.old)
        return Change(self.old, Edition(BOOK, self.old.kinds()[:-1], self.roles, self.old.tree()), kinds, roles, self.rows())

    def rows(self):
        found = []
        for role in self.old.roles():
            for mode in role[1]:
                words_of = [SORTS[sort] for _, sort in mode[1]]
                for marking in [(word,) for word in words_of[0]] if words_of else [()]:
                    terms = [("var", ("register", x)) for x in mode[2]]
                    if self.more[(role[0], mode[0])]:
                        terms.append(self.chosen.choice(terms + [("var", ("self",)), ("of", "nil", ())]))
                    if self.chosen.randrange(3) == 0:
                        found.append(((role[0], mode[0], marking), mode[0], marking, tuple(terms)))
        return found


def stands_in(name, told):
    """Whether a variable stands in a term."""
    return told == ("var", name) or (told[0] == "of" and any(stands_in(name, member) for member in told[2]))


def same_rows(edition):
    """The kinds and the roles of a change from an edition to one with the same kinds and starts."""
    kinds = [(kind[0], kind[0], tuple(("mark", name) for name, _ in kind[2]), tuple(("var", ("field", x)) for x in kind[3]))
             for kind in edition.kinds()[:-1]]
    roles = [(role[0], role[0], tuple(("mark", name) for name, _ in role[2][0]),
              tuple(("var", ("given", x)) for x in role[2][1])) for role in edition.roles()]
    return kinds, roles


def remembering(seed, many, makes=True):
    """Changes whose roles are alike, and whose new editions keep what the old ones may have forgotten."""
    chosen = random.Random(seed)
    return [Remembering(chosen, Maker(chosen, makes=makes).edition()).change() for _ in range(many)]
