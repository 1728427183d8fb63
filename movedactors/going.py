"""Going: actors that go, supervisors that act, and whom an actor sweeps along."""

from movedactors.errors import NoActor, UnknownName
from movedactors.meanings import value_of
from movedactors.parts import is_told
from movedactors.supervisors import above, beneath, chosen, slot, slots_of, supervisor


class Settling:
    """The settling of a going: the waiting list, the failed list, and the events."""

    def __init__(self, system):
        self._system = system
        self._trees = [edition.tree() for edition in system.editions()]
        self._slots = slots_of(self._trees[0])
        self._waiting = []
        self._failed = []
        self._events = []

    def settle(self, address, why):
        """Settles that an actor goes, and returns the tuple of the events."""
        self._waiting.append((address, why))
        while self._waiting or self._failed:
            if self._waiting:
                self._next_going()
            else:
                self._act(self._failed.pop(0))
        self._lose()
        return tuple(self._events)

    def _next_going(self):
        address, why = self._waiting.pop(0)
        if self._system.is_in(address):
            self._go(address, why)
        if why != "ended" and address in self._slots:
            self._failed.append(address)

    def _go(self, address, why):
        system = self._system
        message = (system.edition(address), "gone", (why,), (address,))
        system.put_out(address, why)
        self._events.append(("out", address, why))
        for pair in system.links():
            other = other_member(pair, address)
            if system.is_in(other):
                if system.heeds(other):
                    self._tell(address, other, message)
                elif why != "ended":
                    self._waiting.append((other, why))
        for watcher, watched in system.watches():
            if watched == address and system.is_in(watcher):
                self._tell(address, watcher, message)
        system.take_away(address)

    def _tell(self, address, receiver, message):
        self._system.put_on_road(address, receiver, message)
        self._events.append(("told", receiver, message))

    def _act(self, child):
        names = above(self._trees[0], child)
        if any([self._system.team(name)[2] for name in names]) or not self._is_down(child):
            return
        name = names[-1]
        number, used, _ = self._system.team(name)
        if used < supervisor(self._trees[number], name)[3]:
            self._system.set_team(name, number, used + 1, False)
            self._events.append(("used", name, used + 1))
            self._renew(chosen(self._trees[number], name, child))
        else:
            self._close(name, names[:-1])

    def _is_down(self, child):
        """Whether a slot's actor is out, or a supervisor is closed."""
        if isinstance(child, str):
            return self._system.team(child)[2]
        return not self._system.is_in(child)

    def _close(self, name, names_above):
        number, used, _ = self._system.team(name)
        self._system.set_team(name, number, used, True)
        self._events.append(("closed", name))
        for address in beneath(self._trees[0], name)[1]:
            if self._system.is_in(address):
                self._waiting.append((address, "closed"))
        if names_above:
            self._failed.append(name)

    def _renew(self, picked):
        # The supervisors come ahead of all slots: what a slot begins with depends on editions, which stay.
        names, addresses = picked
        for name in names:
            self._system.set_team(name, self._system.team(name)[0], 0, False)
        for address in addresses:
            if self._system.is_in(address) or self._system.why(address) != "ended":
                birth = self._slot_birth(address)
                self._system.renew(address, birth)
                self._events.append(("renewed", address, birth))

    def _slot_birth(self, address):
        """The birth with which a slot begins in the edition of its own supervisor."""
        owner = above(self._trees[0], address)[-1]
        number = self._system.team(owner)[0]
        _, _, role, words, terms = slot(self._trees[number], address)
        meaning = self._system.meaning()
        return (number, role, words, tuple([value_of(meaning, term, {}) for term in terms]))

    def _lose(self):
        for address in self._system.addresses():
            if not self._system.is_in(address):
                messages = self._system.empty_queues(address)
                if messages:
                    self._events.append(("lost", address, tuple(messages)))


def other_member(pair, address):
    """The other member of a pair with an address, or None if the pair does not have it, or has it twice."""
    one, other = pair
    if (one == address) == (other == address):
        return None
    return other if one == address else one


def settled(system, address, why):
    """Settles that an actor goes with a why, and returns the tuple of the events."""
    require_in(system, address)
    if why not in system.editions()[0].book().words("why"):
        raise UnknownName(why)
    return Settling(system).settle(address, why)


def require_in(system, address):
    """Raises NoActor(address) if an address, which may be anything, is not that of an actor that is in."""
    if not system.is_in(address):
        raise NoActor(address)


def swept(system, address):
    """The list of the addresses of the actors that are swept by an actor, in the order in which they go."""
    require_in(system, address)
    return list(sweepers(system, address))[1:]


def sweepers(system, address):
    """The table of who sweeps along each actor that goes before any supervisor acts, for the first one None."""
    links = system.links()
    found = {}
    waiting = [(address, None)]
    while waiting:
        member, sweeper = waiting.pop(0)
        if member in found:
            continue
        found[member] = sweeper
        for pair in links:
            other = other_member(pair, member)
            if system.is_in(other) and not system.heeds(other):
                waiting.append((other, member))
    return found


def swept_paper(system, address, other):
    """A chain from an actor to one that is swept by it, or a wall around it without this one."""
    require_pair(system, address, other)
    found = sweepers(system, address)
    if other not in found:
        return ("wall", tuple(sorted(found)))
    members = [other]
    while members[-1] != address:
        members.append(found[members[-1]])
    return ("chain", tuple(members[::-1]))


def require_pair(system, address, other):
    """Raises NoActor for the first of two addresses, which may be anything, that is not that of one more actor in."""
    require_in(system, address)
    require_in(system, other)
    if other == address:
        raise NoActor(other)


def judge_swept(system, address, other, paper):
    """Whether a paper, which may be anything, is a chain or a wall for two actors."""
    require_pair(system, address, other)
    if is_told(paper, "chain", 2):
        return are_in(system, paper[1]) and holds_as_chain(system, address, other, paper[1])
    if is_told(paper, "wall", 2):
        return are_in(system, paper[1]) and holds_around(system, address, other, paper[1])
    return False


def are_in(system, members):
    """Whether something, which may be anything, is a tuple of different addresses of actors that are in."""
    if not isinstance(members, tuple) or not all([system.is_in(member) for member in members]):
        return False
    return len(set(members)) == len(members)


def holds_as_chain(system, address, other, members):
    """Whether different addresses of actors that are in are a chain from an actor to another one."""
    if not members or members[0] != address or members[-1] != other:
        return False
    links = system.links()
    for one, follower in zip(members, members[1:]):
        if (one, follower) not in links and (follower, one) not in links:
            return False
    return not any([system.heeds(member) for member in members[1:]])


def holds_around(system, address, other, members):
    """Whether different addresses of actors that are in are a wall around an actor without another one."""
    if list(members) != sorted(members) or address not in members or other in members:
        return False
    for pair in system.links():
        for member in pair:
            outer = other_member(pair, member)
            if member in members and outer not in members and system.is_in(outer) and not system.heeds(outer):
                return False
    return True
