"""Reading: messages and births that are raised, elder forms, and what an actor reads."""

from movedactors.changes import words_by_row
from movedactors.controls import markings
from movedactors.errors import BadSystem, NotNow
from movedactors.raising import changed_message, changed_start
from movedactors.shapes import is_birth_of, is_message_of


def is_message(system, value):
    """Whether a value, which may be anything, is a message of the chain of a system."""
    return is_message_of(system.editions(), value)


def is_birth(system, value):
    """Whether a value, which may be anything, is a birth of the chain of a system."""
    return is_birth_of(system.editions(), value)


def raised(system, message, number):
    """A message raised to an edition that is not below its own."""
    if not is_message(system, message):
        raise BadSystem("message")
    changes = system.changes()
    for k in range(message[0], number):
        message = (k + 1,) + changed_message(system.meaning(), changes[k], message[1], message[2], message[3])
    return message


def raised_birth(system, birth, number):
    """A birth raised to an edition that is not below its own."""
    if not is_birth(system, birth):
        raise BadSystem("birth")
    changes = system.changes()
    for k in range(birth[0], number):
        birth = (k + 1,) + changed_start(system.meaning(), changes[k], birth[1], birth[2], birth[3])
    return birth


def elder_forms(system, message):
    """The list of the elder forms of a message, in order."""
    if not is_message(system, message):
        raise BadSystem("message")
    number = message[0] - 1
    if number < 0:
        raise NotNow()
    if message[1] == "gone":
        return [(number,) + message[1:]]
    change = system.changes()[number]
    found = []
    for kind, words in elder_heads(change, message[1], message[2]):
        names = change.old().kind(kind)[3]
        found.append((number, kind, words, elder_things(names, change.of_kind(kind)[3], message[3])))
    return found


def elder_heads(change, kind, words):
    """The list of the pairs (kind, marking) of the elder forms that messages of a new kind with these words have."""
    found = []
    for row in change.kinds():
        if row[1] == kind and is_undone(row[3]):
            marks = change.old().kind(row[0])[2]
            olds = markings(change.old().book(), marks)
            found.extend([(row[0], marking) for marking in olds if words_by_row(row, marks, marking) == words])
    return found


def is_undone(terms):
    """Whether the terms of a tuple for a kind are variables, all different, so that each tells an old field."""
    if not all([term[0] == "var" for term in terms]):
        return False
    return len({term[1]: True for term in terms}) == len(terms)


def elder_things(names, terms, things):
    """The things of the old thing fields: those of the new fields in which they stand, and 0 for the others."""
    told = {term[1][1]: thing for term, thing in zip(terms, things)}
    return tuple([told.get(name, 0) for name in names])


def read(system, number, message):
    """The message as an actor of an edition reads it, or None if it cannot read it."""
    if not is_message(system, message):
        raise BadSystem("message")
    while message[0] > number:
        forms = elder_forms(system, message)
        if not forms:
            return None
        message = forms[0]
    return raised(system, message, number)
