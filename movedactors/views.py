"""Views: what is seen of a system when all is raised to the newest edition, and twins."""

from movedactors.choices import make_all
from movedactors.reading import raised, raised_birth
from movedactors.supervisors import names_of
from movedactors.systems import System


def raised_log(system):
    """The raised log of a system."""
    rows = [raised_row(system, row) for row in system.log()]
    return [row for row in rows if row is not None]


def raised_row(system, row):
    """The raised row of a row of the log, or None for a move or a shift."""
    choice, events = row
    if choice[0] == "move" or choice[0] == "shift":
        return None
    if choice[0] == "post":
        choice = choice[:2] + (newest_message(system, choice[2]),)
    return (choice, tuple([raised_event(system, event) for event in events if event[0] != "went"]))


def raised_event(system, event):
    """An event with its messages and births raised to the newest edition."""
    word = event[0]
    if word in ("said", "queued", "read", "sent", "told"):
        return event[:-1] + (newest_message(system, event[-1]),)
    if word in ("made", "renewed"):
        return event[:-1] + (raised_birth(system, event[-1], system.newest()),)
    if word == "lost":
        return event[:-1] + (tuple([newest_message(system, message) for message in event[-1]]),)
    return event


def newest_message(system, message):
    """A message raised to the newest edition."""
    return raised(system, message, system.newest())


def view(system):
    """The view of a system."""
    addresses = system.addresses()
    names = names_of(system.editions()[0].tree())
    return (
        tuple([seen_actor(system, address) for address in addresses]),
        seen_roads(system, addresses),
        seen_queues(system, addresses),
        tuple(system.links()),
        tuple(system.watches()),
        tuple([(sender, newest_message(system, message)) for sender, message in system.said()]),
        tuple([(name,) + system.team(name)[1:] for name in names]),
        tuple(system.supply()),
    )


def seen_actor(system, address):
    """What is seen of an actor: its address, birth, lives, and what it is now."""
    if not system.is_in(address):
        now = ("out", system.why(address))
    elif system.edition(address) == system.newest():
        now = ("in", system.state(address))
    else:
        now = ("in", None)
    return (address, raised_birth(system, system.birth(address), system.newest()), system.lives(address), now)


def seen_roads(system, addresses):
    """The tuple of the roads that are not empty, where all messages are raised."""
    found = []
    for sender in [0] + addresses:
        pairs = [(receiver, newest_message(system, message)) for receiver, message in system.road(sender)]
        if pairs:
            found.append((sender, tuple(pairs)))
    return tuple(found)


def seen_queues(system, addresses):
    """The tuple of the queues that are not empty, where all messages are raised."""
    found = []
    for address in addresses:
        for port in system.editions()[0].book().ports():
            messages = [newest_message(system, message) for message in system.queue(address, port)]
            if messages:
                found.append((address, port, tuple(messages)))
    return tuple(found)


def seen_alike(one, other):
    """Whether two systems of equal chains are seen alike."""
    left = view(one)
    right = view(other)
    if left[1:] != right[1:] or len(left[0]) != len(right[0]):
        return False
    return all([are_alike_actors(row, other_row) for row, other_row in zip(left[0], right[0])])


def are_alike_actors(row, other):
    """Whether what is seen of two actors is the same, where a state counts only if both have it."""
    if row[:3] != other[:3] or row[3][0] != other[3][0]:
        return False
    return row[3] == other[3] or row[3][1] is None or other[3][1] is None


def twin_begun(system):
    """The twin of a system before its choices."""
    begun = system.beginning()
    newest = system.newest()
    actors = [(address,) + raised_birth(begun, begun.birth(address), newest) for address in begun.addresses()]
    return System(system.meaning(), system.editions(), system.changes(), begun.supply(), actors, first=newest)


def twin_of(system):
    """The twin of a system."""
    twin = twin_begun(system)
    make_all(twin, [row[0] for row in raised_log(system)])
    return twin
