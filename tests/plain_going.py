"""Settling, told once more and plainly, for systems of two editions with random trees; and such systems."""

from movedactors.changes import Change
from movedactors.editions import Edition
from movedactors.meanings import value_of
from movedactors.systems import System
from samples import given, go, leaf, of, var
from world import BOOK, MEANING

KINDS = (("put", "main", (), ("a",)), ("ask", "side", (), ()))
STAY = leaf(go("awake", (), (var("x"),)))
ROLE = (
    "r",
    (("awake", (), ("x",), ("main", "gone"), True), ("deaf", (), ("x",), ("side",), False)),
    ((("s", "size"),), ("i",), ("if", "s", "big", leaf(go("awake", (), (var("i"),))), leaf(go("deaf", (), (var("i"),))))),
    (("awake", "put", STAY), ("awake", "gone", STAY), ("deaf", "ask", STAY)),
)
WHYS = ("ended", "closed", "bad", "worse")


def random_tree(chosen, ways, limits):
    """A tree of at most 4 supervisors, nested at most 3 deep, and at most 6 slots."""
    left = {"names": ["s4", "s3", "s2", "s1"], "slots": 6}

    def slot():
        left["slots"] -= 1
        return ("slot", 6 - left["slots"], "r", (chosen.choice(("small", "big")),), (chosen.choice((
            of("nil"), of("up", of("nil")))),))

    def supervisor(deep):
        name = left["names"].pop()
        children = []
        for _ in range(chosen.randrange(1, 4)):
            if deep < 3 and left["names"] and chosen.randrange(3) == 0:
                children.append(supervisor(deep + 1))
            elif left["slots"] > 1:
                children.append(slot())
        if not children:
            children.append(slot())
        return ("supervisor", name, chosen.choice(ways), chosen.choice(limits), tuple(children))

    found = []
    for _ in range(chosen.randrange(1, 3)):
        if left["names"] and left["slots"]:
            found.append(supervisor(1))
    return tuple(found)


def other_tree(chosen, tree, ways, limits):
    """A tree of the same shape."""
    found = []
    for part in tree:
        if part[0] == "slot":
            found.append(("slot", part[1], "r", (chosen.choice(("small", "big")),), (of("nil"),)))
        else:
            found.append(("supervisor", part[1], chosen.choice(ways), chosen.choice(limits), other_tree(
                chosen, part[4], ways, limits)))
    return tuple(found)


def tree_slots(tree):
    return [s for part in tree for s in ([part] if part[0] == "slot" else tree_slots(part[4]))]


def random_chain(chosen, ways=("one", "all", "behind"), limits=(0, 1, 1, 2, 3)):
    tree = random_tree(chosen, ways, limits)
    old = Edition(BOOK, KINDS, [ROLE], tree)
    new = Edition(BOOK, KINDS, [ROLE], other_tree(chosen, tree, ways, limits))
    change = Change(
        old, new, [("put", "put", (), (var(("field", "a")),)), ("ask", "ask", (), ())],
        [("r", "r", (("mark", "s"),), (given("i"),))], [])
    return (old, new, change)


def random_system(chosen, links=8):
    old, new, change = random_chain(chosen)
    addresses = [slot[1] for slot in tree_slots(old.tree())] + [7, 8, 9]
    rows = []
    for address in addresses:
        rows.append((address, chosen.randrange(2), "r", (chosen.choice(("small", "big")),), (chosen.randrange(9),)))
    made = System(MEANING, [old, new], [change], [], rows)
    things = addresses + [0, 77]
    for _ in range(chosen.randrange(links)):
        made.put_link(chosen.choice(addresses), chosen.choice(things))
        made.put_watch(chosen.choice(addresses), chosen.choice(things))
    for address in addresses:
        if chosen.randrange(6) == 0:
            made.put_out(address, chosen.choice(WHYS))
        for _ in range(chosen.randrange(3)):
            port = chosen.choice(("main", "side", "gone"))
            made.put_in_queue(address, port, (0, "put", (), (chosen.randrange(9),)))
        if chosen.randrange(3) == 0:
            made.put_on_road(address, 3, (1, "ask", (), ()))
    for name in names_in(old.tree()):
        if chosen.randrange(3) == 0:
            made.set_team(name, chosen.randrange(2), chosen.randrange(3), chosen.randrange(6) == 0)
    return made


def names_in(tree):
    return [name for part in tree if part[0] == "supervisor" for name in [part[1]] + names_in(part[4])]


class Plain:
    """The standing of a system in plain tables, and its settling."""

    def __init__(self, system):
        self.system = system
        self.trees = [edition.tree() for edition in system.editions()]
        self.now = {}
        for a in system.addresses():
            self.now[a] = ("in", system.edition(a), system.state(a)) if system.is_in(a) else ("out", system.why(a))
        self.births = {a: (system.lives(a), system.birth(a)) for a in system.addresses()}
        self.roads = {a: system.road(a) for a in [0] + system.addresses()}
        self.queues = {(a, port): system.queue(a, port) for a in system.addresses() for port in ("main", "side", "gone")}
        self.links = system.links()
        self.watches = system.watches()
        self.teams = {name: list(system.team(name)) for name in names_in(self.trees[0])}
        self.owners = {}
        self.find_owners(self.trees[0], None)
        self.events = []

    def find_owners(self, parts, owner):
        for part in parts:
            self.owners[part[1]] = owner
            if part[0] == "supervisor":
                self.find_owners(part[4], part[1])

    def part(self, number, key):
        def search(parts):
            for part in parts:
                if part[1] == key:
                    return part
                found = search(part[4]) if part[0] == "supervisor" else None
                if found:
                    return found
            return None

        return search(self.trees[number])

    def is_in(self, a):
        return a in self.now and self.now[a][0] == "in"

    def heeds(self, a):
        return self.now[a][2][0][1] == "awake"

    def go(self, x, why, waiting):
        message = (self.now[x][1], "gone", (why,), (x,))
        self.now[x] = ("out", why)
        self.events.append(("out", x, why))
        receivers = []
        for entry in self.links:
            if list(entry).count(x) == 1:
                y = entry[0] + entry[1] - x
                if self.is_in(y) and self.heeds(y):
                    receivers.append(y)
                if self.is_in(y) and not self.heeds(y) and why != "ended":
                    waiting.append((y, why))
        receivers += [watcher for watcher, watched in self.watches if watched == x and self.is_in(watcher)]
        for y in receivers:
            self.roads[x].append((y, message))
            self.events.append(("told", y, message))
        self.links = [entry for entry in self.links if x not in entry]
        self.watches = [entry for entry in self.watches if x not in entry]

    def is_under_a_closed_one(self, name):
        while name is not None:
            if self.teams[name][2]:
                return True
            name = self.owners[name]
        return False

    def act(self, c, waiting, failed):
        s = self.owners[c]
        if self.is_under_a_closed_one(s) or (c in self.teams and not self.teams[c][2]) or self.is_in(c):
            return
        team = self.teams[s]
        _, _, way, limit, children = self.part(team[0], s)
        if team[1] < limit:
            team[1] += 1
            self.events.append(("used", s, team[1]))
            k = [child[1] for child in children].index(c)
            for child in {"one": children[k:k + 1], "all": children, "behind": children[k:]}[way]:
                self.renew(child)
            return
        team[2] = True
        self.events.append(("closed", s))
        for slot in tree_slots(self.part(0, s)[4]):
            if self.is_in(slot[1]):
                waiting.append((slot[1], "closed"))
        if self.owners[s] is not None:
            failed.append(s)

    def renew(self, part):
        if part[0] == "supervisor":
            self.teams[part[1]][1:] = [0, False]
            for child in part[4]:
                self.renew(child)
        elif self.now[part[1]] != ("out", "ended"):
            number = self.teams[self.owners[part[1]]][0]
            _, a, role, words, terms = self.part(number, part[1])
            birth = (number, role, words, tuple(value_of(MEANING, term, {}) for term in terms))
            self.births[a] = (self.births[a][0] + 1, birth)
            mode = "awake" if words == ("big",) else "deaf"
            self.now[a] = ("in", number, ((role, mode, ()), birth[3]))
            self.events.append(("renewed", a, birth))

    def settle(self, x, why):
        waiting, failed = [(x, why)], []
        while waiting or failed:
            while waiting:
                y, reason = waiting.pop(0)
                if self.is_in(y):
                    self.go(y, reason, waiting)
                if reason != "ended" and y in self.owners:
                    failed.append(y)
            if failed:
                self.act(failed.pop(0), waiting, failed)
        for a in sorted(self.now):
            lost = [m for port in ("main", "side", "gone") for m in self.queues[(a, port)]]
            if lost and not self.is_in(a):
                self.events.append(("lost", a, tuple(lost)))
                for port in ("main", "side", "gone"):
                    self.queues[(a, port)] = []
        return tuple(self.events)

    def standing(self):
        teams = {name: tuple(team) for name, team in self.teams.items()}
        return (self.now, self.births, self.roads, self.queues, self.links, self.watches, teams)
