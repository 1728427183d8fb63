"""Choices: what a system can do, and what happens then."""

from movedactors.edges import edge_at
from movedactors.errors import NotNow
from movedactors.firsts import is_address
from movedactors.going import settled
from movedactors.handling import count_makes, next_state
from movedactors.parts import is_told
from movedactors.reading import is_message, read
from movedactors.squares import moved_state
from movedactors.supervisors import names_of
from movedactors.words import is_number


def can(system, choice):
    """Whether a choice, which may be anything, can be made."""
    if is_told(choice, "move", 2):
        return state_ahead(system, choice[1]) is not None
    if is_told(choice, "shift", 2):
        return can_shift(system, choice[1])
    if not isinstance(choice, tuple) or len(choice) != 3:
        return False
    word, one, other = choice
    if word == "post":
        return is_address(one) and is_message(system, other)
    if word == "bring":
        return is_number(other) and other in receivers(system, one)
    if word == "take":
        return next_read(system, one, other) is not None
    if word == "kill":
        return system.is_in(one) and other in system.editions()[0].book().words("why")
    if word == "link" or word == "watch":
        return system.is_in(one) and is_number(other)
    return False


def can_shift(system, name):
    """Whether a name, which may be anything, is that of a supervisor of an edition that is not the newest one."""
    return name in names_of(system.editions()[0].tree()) and system.team(name)[0] < system.newest()


def receivers(system, sender):
    """The list of the receivers of what stands on a road; sender may be anything."""
    if not is_number(sender) or not (sender == 0 or sender in system.addresses()):
        return []
    return [pair[0] for pair in system.road(sender)]


def next_read(system, address, port):
    """The message that an actor would take from a port, as it reads it, or None if it cannot take one."""
    if not system.is_in(address):
        return None
    number = system.edition(address)
    role, mode, _ = system.state(address)[0]
    if port not in system.editions()[number].mode(role, mode)[3]:
        return None
    messages = system.queue(address, port)
    return read(system, number, messages[0]) if messages else None


def state_ahead(system, address):
    """The state to which an actor would move, or None if it cannot move."""
    if not system.is_in(address) or system.edition(address) == system.newest():
        return None
    change = system.changes()[system.edition(address)]
    state = system.state(address)
    if change.row(state[0]) is None:
        return None
    return moved_state(system.meaning(), change, state, address)


def make(system, choice):
    """Makes a choice, which may be anything, and returns its events."""
    if not can(system, choice):
        raise NotNow()
    events = carried_out(system, choice)
    system.put_row((choice, events))
    return events


def carried_out(system, choice):
    """Carries out a choice that can be made, and returns its events."""
    word = choice[0]
    if word == "bring":
        return bring(system, choice[1], choice[2])
    if word == "take":
        return take(system, choice[1], choice[2])
    if word == "kill":
        return settled(system, choice[1], choice[2])
    if word == "move":
        return move(system, choice[1])
    if word == "post":
        system.put_on_road(0, choice[1], choice[2])
    elif word == "link":
        system.put_link(choice[1], choice[2])
    elif word == "watch":
        system.put_watch(choice[1], choice[2])
    else:
        number, used, is_closed = system.team(choice[1])
        system.set_team(choice[1], number + 1, used, is_closed)
    return ()


def bring(system, sender, receiver):
    """Brings the first message of a road for a receiver."""
    message = system.take_off_road(sender, receiver)
    if receiver == 0:
        system.put_said(sender, message)
        return (("said", message),)
    if not system.is_in(receiver):
        return (("lost", receiver, (message,)),)
    port = system.editions()[message[0]].kind(message[1])[1]
    system.put_in_queue(receiver, port, message)
    return (("queued", port, message),)


def move(system, address):
    """Moves an actor to the next edition."""
    number = system.edition(address) + 1
    state = state_ahead(system, address)
    system.put_state(address, number, state)
    return (("moved", number, state),)


def take(system, address, port):
    """Lets an actor take the first message of a queue."""
    message = next_read(system, address, port)
    system.take_out_of_queue(address, port)
    number, kind, words, things = message
    edition = system.editions()[number]
    state = system.state(address)
    children = system.next_addresses(count_makes(edge_at(edition, state[0], kind, words)))
    follower, deeds = next_state(system.meaning(), edition, state, kind, words, things, children, address)
    events = [("read", message)] + done_deeds(system, address, number, deeds)
    if follower is not None:
        system.put_state(address, number, follower)
        events.append(("went", follower))
        return tuple(events)
    why = "ended" if deeds[4][0] == "stop" else deeds[4][1]
    return tuple(events) + settled(system, address, why)


def done_deeds(system, address, number, deeds):
    """Does all deeds of an actor of an edition but the end, and returns the list of their events."""
    makes, links, watches, sends, _ = deeds
    events = []
    for make_row in makes:
        birth = (number,) + make_row[1:]
        events.append(("made", system.born(birth), birth))
    for thing in links:
        system.put_link(address, thing)
        events.append(("linked", thing))
    for thing in watches:
        system.put_watch(address, thing)
        events.append(("watched", thing))
    for send in sends:
        message = (number,) + send[1:]
        system.put_on_road(address, send[0], message)
        events.append(("sent", send[0], message))
    return events


def make_all(system, choices):
    """Makes the choices of a list, one after another, and returns the list of their events."""
    found = []
    for choice in choices:
        found.append(make(system, choice))
    return found


def open_choices(system):
    """The list of the brings, takes, moves and shifts that can be made, in order."""
    addresses = system.addresses()
    asked = []
    for sender in [0] + addresses:
        asked.extend([("bring", sender, receiver) for receiver in sorted(set(receivers(system, sender)))])
    ports = system.editions()[0].book().ports()
    asked.extend([("take", address, port) for address in addresses for port in ports])
    asked.extend([("move", address) for address in addresses])
    asked.extend([("shift", name) for name in names_of(system.editions()[0].tree())])
    return [choice for choice in asked if can(system, choice)]
