"""Whether values, which may be anything, are things, starts, messages, births and states of editions."""

from movedactors.controls import is_control, is_marking
from movedactors.errors import UnknownName
from movedactors.parts import is_row
from movedactors.words import is_number


def is_things(value, many):
    """Whether a value, which may be anything, is a tuple of so many things."""
    return is_row(value, many) and all([is_number(thing) for thing in value])


def is_start(edition, role, words, things):
    """Whether a role, words and things, which may be anything, are a role of the edition with a start that fits."""
    try:
        marks, names, _ = edition.start(role)
    except UnknownName:
        return False
    return is_words(edition, marks, words) and is_things(things, len(names))


def is_filled(edition, kind, words, things):
    """Whether a kind, words and things, which may be anything, are a kind of the edition with fields that fit."""
    try:
        _, _, marks, names = edition.kind(kind)
    except UnknownName:
        return False
    return is_words(edition, marks, words) and is_things(things, len(names))


def is_words(edition, marks, words):
    """Whether words, which may be anything, are a tuple that is a marking of marks."""
    return isinstance(words, tuple) and is_marking(edition.book(), marks, words)


def is_state(edition, value):
    """Whether a value, which may be anything, is a state of the edition."""
    if not is_row(value, 2) or not is_control(edition, value[0]):
        return False
    role, mode, _ = value[0]
    return is_things(value[1], len(edition.mode(role, mode)[2]))


def is_message_of(editions, value):
    """Whether a value, which may be anything, is a message of a chain with these editions."""
    if not is_row(value, 4) or not is_place(editions, value[0]):
        return False
    return is_filled(editions[value[0]], value[1], value[2], value[3])


def is_birth_of(editions, value):
    """Whether a value, which may be anything, is a birth of a chain with these editions."""
    if not is_row(value, 4) or not is_place(editions, value[0]):
        return False
    return is_start(editions[value[0]], value[1], value[2], value[3])


def is_place(rows, value):
    """Whether a value, which may be anything, is the number of one of these rows."""
    return is_number(value) and value < len(rows)
