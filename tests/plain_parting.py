"""Partings of trees, roles, supervisors and changes judged once more by running systems, as Part 10 tells it."""

from movedactors.choices import can, make, make_all
from movedactors.controls import markings
from movedactors.errors import NotNow
from movedactors.going import settled
from movedactors.meanings import value_of
from movedactors.raising import changed_start
from movedactors.reading import raised
from movedactors.squares import moved_state
from movedactors.systems import System
from movedactors.views import raised_log, seen_alike, twin_of


def slot_actors(change, meaning):
    """Rows of first actors for the slots, with the starts of the old tree."""
    return [(address, 0, role, words, tuple(value_of(meaning, term, {}) for term in terms))
            for address, role, words, terms, _ in change.old().slots()]


def tree_difference(change, meaning, kills):
    """None if an actor is not in at its turn, otherwise whether the elder and the newer system differ then."""
    rows = slot_actors(change, meaning)
    elder = System(meaning, [change.old()], [], (), rows)
    newer = System(meaning, [change.new()], [], (), [
        (row[0], 0) + changed_start(meaning, change, *row[2:]) for row in rows])
    for address in kills:
        if not (elder.is_in(address) and newer.is_in(address)):
            return None
        settled(elder, address, "closed")
        settled(newer, address, "closed")
    for name, _, _, _ in change.old().supervisors():
        if elder.team(name)[1:] != newer.team(name)[1:]:
            return True
    for address in elder.addresses():
        one, other = elder.birth(address)[1:], newer.birth(address)[1:]
        if changed_start(meaning, change, *one) != other or elder.lives(address) != newer.lives(address):
            return True
        if elder.is_in(address) != newer.is_in(address):
            return True
    return False


def seen(system):
    """What a moved view tells, gathered anew."""
    change = system.changes()[0]

    def up(message):
        return raised(system, message, 1)

    actors = []
    for address in system.addresses():
        now = ("out", None if system.is_in(address) else system.why(address))
        if system.is_in(address):
            state = system.state(address)
            now = ("in", moved_state(system.meaning(), change, state, address) if system.edition(address) == 0 else state)
        actors.append((address, system.lives(address), now))
    roads = {sender: [(receiver, up(message)) for receiver, message in system.road(sender)]
             for sender in [0] + system.addresses()}
    queues = {(address, port): [up(message) for message in system.queue(address, port)]
              for address in system.addresses() for port in change.old().book().ports()}
    teams = [(name,) + system.team(name)[1:] for name, _, _, _ in change.old().supervisors()]
    said = [(sender, up(message)) for sender, message in system.said()]
    return (actors, roads, queues, system.links(), system.watches(), said, teams, system.supply())


def begun_pair(change, meaning, rows):
    """Two equal systems; then all of the second one shift and move."""
    pair = [System(meaning, [change.old(), change.new()], [change], (), rows) for _ in range(2)]
    make_all(pair[1], [("shift", name) for name, _, _, _ in change.old().supervisors()])
    make_all(pair[1], [("move", address) for address in pair[1].addresses()])
    return pair


def role_difference(change, role, value):
    """Whether a parting of a role parts its two systems."""
    meaning, control, things, kind, words, fields = value
    own = max([slot[0] for slot in change.old().slots()], default=0) + 1
    marks, given, _ = change.old().start(role)
    row = (own, 0, role, markings(change.old().book(), marks)[0], (0,) * len(given), (control, things))
    pair = begun_pair(change, meaning, slot_actors(change, meaning) + [row])
    take = ("take", own, change.old().kind(kind)[1])
    for one in pair:
        make_all(one, [("post", own, (0, kind, words, fields)), ("bring", 0, own)])
    make(pair[0], take)
    if not can(pair[1], take):
        return True
    make(pair[1], take)
    return seen(pair[0]) != seen(pair[1])


def supervisor_difference(change, name, firsts, value):
    """None if an actor is not in at its turn, otherwise whether a parting of a supervisor parts its two systems."""
    meaning, kills = value
    pair = begun_pair(change, meaning, slot_actors(change, meaning))
    make_all(pair[0], [("shift", first) for first in firsts if first != name])
    for address in kills:
        if not all(one.is_in(address) for one in pair):
            return None
        for one in pair:
            settled(one, address, "closed")
    return seen(pair[0]) != seen(pair[1])


def change_difference(change, value):
    """Whether a parting of a change makes a system that parts from its twin."""
    meaning, supply, actors, choices = value
    system = System(meaning, [change.old(), change.new()], [change], supply, actors, first=0)
    make_all(system, choices)
    try:
        twin = twin_of(system)
    except NotNow:
        return True
    return raised_log(system) != raised_log(twin) or not seen_alike(system, twin)
