"""Systems: a meaning and a chain, which never change, and a standing, which does."""

from movedactors.errors import BadSystem, NoActor, UnknownName
from movedactors.firsts import check_actors, check_chain, check_first, check_supply
from movedactors.handling import first_state
from movedactors.shapes import is_state
from movedactors.trees import tree_supervisors
from movedactors.words import is_number


class System:
    """A system. Its standing has a table for each thing that is told of actors, by their addresses.

    An actor that is in has a pair of the number of an edition and a state, one that is out has a why.
    """

    def __init__(self, meaning, editions, changes, supply, actors, *, first=0):
        check_chain(editions, changes)
        check_first(editions, first)
        check_actors(editions, actors)
        check_supply(actors, supply)
        self._meaning = meaning
        self._editions = tuple(editions)
        self._changes = tuple(changes)
        self._begun = (tuple(supply), tuple(actors), first)
        self._births = {}
        self._lives = {}
        self._stood = {}
        self._whys = {}
        self._roads = {}
        self._queues = {}
        self._links = []
        self._watches = []
        self._said = []
        self._supply = list(supply)
        self._log = []
        supervisors = tree_supervisors(self._editions[0].tree())
        self._teams = {supervisor[0]: (first, 0, False) for supervisor in supervisors}
        for row in actors:
            self._begin(row[0], row[1:5], 1)
            if len(row) == 6:
                self._stood[row[0]] = (row[1], row[5])

    def __eq__(self, other):
        if not isinstance(other, System) or self._meaning != other._meaning:
            return False
        if self._editions != other._editions or self._changes != other._changes:
            return False
        return self._standing() == other._standing()

    def _standing(self):
        roads = {sender: self._roads[sender] for sender in self._roads if self._roads[sender]}
        queues = {place: self._queues[place] for place in self._queues if self._queues[place]}
        actors = (self._births, self._lives, self._stood, self._whys)
        lists = (self._links, self._watches, self._said, self._supply)
        return (actors, roads, queues, lists, self._teams)

    def _begin(self, address, birth, lives):
        number, role, words, things = birth
        state = first_state(self._meaning, self._editions[number], role, words, things, address)
        self._births[address] = birth
        self._lives[address] = lives
        self._stood[address] = (number, state)

    def meaning(self):
        """The meaning."""
        return self._meaning

    def editions(self):
        """The list of the editions."""
        return list(self._editions)

    def changes(self):
        """The list of the changes."""
        return list(self._changes)

    def newest(self):
        """The number of the newest edition."""
        return len(self._editions) - 1

    def beginning(self):
        """A new system made by the same arguments."""
        supply, actors, first = self._begun
        return System(self._meaning, self._editions, self._changes, supply, actors, first=first)

    def twin(self):
        """An equal system with an equal beginning and log that goes its own way."""
        other = self.beginning()
        other._births = dict(self._births)
        other._lives = dict(self._lives)
        other._stood = dict(self._stood)
        other._whys = dict(self._whys)
        other._roads = {sender: list(self._roads[sender]) for sender in self._roads}
        other._queues = {place: list(self._queues[place]) for place in self._queues}
        other._links = list(self._links)
        other._watches = list(self._watches)
        other._said = list(self._said)
        other._supply = list(self._supply)
        other._teams = dict(self._teams)
        other._log = list(self._log)
        return other

    def addresses(self):
        """The ascending list of the addresses that have an actor."""
        return sorted(self._births)

    def is_in(self, address):
        """Whether an address, which may be anything, is that of an actor that is in."""
        return is_number(address) and address in self._stood

    def _has(self, address):
        return is_number(address) and address in self._births

    def birth(self, address):
        """The last birth of an actor."""
        if not self._has(address):
            raise NoActor(address)
        return self._births[address]

    def lives(self, address):
        """The number of the births of an actor."""
        if not self._has(address):
            raise NoActor(address)
        return self._lives[address]

    def edition(self, address):
        """The number of the edition of an actor that is in."""
        if not self.is_in(address):
            raise NoActor(address)
        return self._stood[address][0]

    def state(self, address):
        """The state of an actor that is in."""
        if not self.is_in(address):
            raise NoActor(address)
        return self._stood[address][1]

    def why(self, address):
        """Why an actor is out."""
        if not self._has(address) or self.is_in(address):
            raise NoActor(address)
        return self._whys[address]

    def road(self, sender):
        """The list of the pairs of the road of 0 or of an actor."""
        if not is_number(sender) or not (sender == 0 or self._has(sender)):
            raise NoActor(sender)
        return list(self._roads.get(sender, ()))

    def queue(self, address, port):
        """The list of the messages of a queue."""
        if not self._has(address):
            raise NoActor(address)
        if port not in self._editions[0].book().ports():
            raise UnknownName(port)
        return list(self._queues.get((address, port), ()))

    def links(self):
        """The list of the links."""
        return list(self._links)

    def watches(self):
        """The list of the watches."""
        return list(self._watches)

    def said(self):
        """The list of what was said."""
        return list(self._said)

    def supply(self):
        """The list of the addresses that are left in the supply."""
        return list(self._supply)

    def next_address(self):
        """The address at which the next actor will be born."""
        return self.next_addresses(1)[0]

    def next_addresses(self, many):
        """The list of the addresses at which so many actors would be born one after another."""
        found = self._supply[:many]
        address = 1
        while len(found) < many:
            if address not in self._births and address not in found:
                found.append(address)
            address += 1
        return found

    def team(self, name):
        """The edition of a supervisor, its used, and whether it is closed."""
        if not isinstance(name, str) or name not in self._teams:
            raise UnknownName(name)
        return self._teams[name]

    def log(self):
        """The list of the rows of the log."""
        return list(self._log)

    def place(self, address, state):
        """Gives an actor that is in any state of its edition."""
        number = self.edition(address)
        if not is_state(self._editions[number], state):
            raise BadSystem("state")
        self._stood[address] = (number, state)

    def heeds(self, address):
        """Whether the control of an actor that is in heeds."""
        number, (control, _) = self._stood[address]
        return self._editions[number].mode(control[0], control[1])[4]

    def born(self, birth):
        """Lets an actor be born at the next address, which is returned."""
        address = self.next_address()
        self._supply = self._supply[1:]
        self._begin(address, birth, 1)
        return address

    def renew(self, address, birth):
        """Lets an actor begin anew with a birth."""
        self._whys.pop(address, None)
        self._begin(address, birth, self._lives[address] + 1)

    def put_state(self, address, number, state):
        """Gives an actor that is in an edition and a state of it."""
        self._stood[address] = (number, state)

    def put_out(self, address, why):
        """Puts an actor that is in out."""
        self._stood.pop(address)
        self._whys[address] = why

    def put_on_road(self, sender, receiver, message):
        """Puts a message at the end of a road."""
        self._roads.setdefault(sender, []).append((receiver, message))

    def put_in_queue(self, address, port, message):
        """Puts a message at the end of a queue."""
        self._queues.setdefault((address, port), []).append(message)

    def put_link(self, one, other):
        """Puts a pair at the end of the links."""
        self._links.append((one, other))

    def put_watch(self, watcher, watched):
        """Puts a pair at the end of the watches."""
        self._watches.append((watcher, watched))

    def put_said(self, sender, message):
        """Puts a pair at the end of what was said."""
        self._said.append((sender, message))

    def put_row(self, row):
        """Puts a row at the end of the log."""
        self._log.append(row)

    def take_off_road(self, sender, receiver):
        """Takes the first message for a receiver, which is there, off a road and returns it."""
        receivers = [pair[0] for pair in self._roads[sender]]
        return self._roads[sender].pop(receivers.index(receiver))[1]

    def take_out_of_queue(self, address, port):
        """Takes the first message, which is there, out of a queue and returns it."""
        return self._queues[(address, port)].pop(0)

    def empty_queues(self, address):
        """Empties all queues of an actor, and returns the list of their messages."""
        found = []
        for port in self._editions[0].book().ports():
            found.extend(self._queues.pop((address, port), ()))
        return found

    def take_away(self, address):
        """Takes all pairs with an address out of links and watches."""
        self._links = [pair for pair in self._links if address not in pair]
        self._watches = [pair for pair in self._watches if address not in pair]

    def set_team(self, name, number, used, is_closed):
        """Gives a supervisor an edition, its used, and whether it is closed."""
        self._teams[name] = (number, used, is_closed)
