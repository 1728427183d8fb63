"""Raising: messages, starts and deeds of the old edition of a change, written in its new one."""

from movedactors.changes import words_by_row
from movedactors.controls import is_marking
from movedactors.errors import BadWords
from movedactors.meanings import value_of
from movedactors.terms import put_in


def changed_words(change, kind, words):
    """The pair (kind, words) of a changed message."""
    marks = change.old().kind(kind)[2]
    if not is_marking(change.old().book(), marks, words):
        raise BadWords()
    if kind == "gone":
        return (kind, tuple(words))
    row = change.of_kind(kind)
    return (row[1], words_by_row(row, marks, words))


def changed_terms(change, kind, words, terms):
    """A changed message (kind, words, terms) by terms."""
    head = changed_words(change, kind, words)
    table = field_table(change, kind, terms)
    return head + (tuple([put_in(term, table) for term in terms_of_kind(change, kind)]),)


def changed_message(meaning, change, kind, words, things):
    """A changed message (kind, words, things) by things."""
    head = changed_words(change, kind, words)
    table = field_table(change, kind, things)
    return head + (tuple([value_of(meaning, term, table) for term in terms_of_kind(change, kind)]),)


def field_table(change, kind, worths):
    """The table of what stands for the thing fields of an old kind."""
    return {("field", x): worth for x, worth in zip(change.old().kind(kind)[3], worths)}


def terms_of_kind(change, kind):
    """The terms of the thing fields that a changed message of an old kind has, over the old fields."""
    if kind == "gone":
        return tuple([("var", ("field", x)) for x in change.old().kind(kind)[3]])
    return change.of_kind(kind)[3]


def start_words(change, role, words):
    """The pair (role, words) of a changed start."""
    marks = change.old().start(role)[0]
    if not is_marking(change.old().book(), marks, words):
        raise BadWords()
    row = change.of_role(role)
    return (row[1], words_by_row(row, marks, words))


def start_terms(change, role, words, terms):
    """A changed start (role, words, terms) by terms."""
    head = start_words(change, role, words)
    table = given_table(change, role, terms)
    return head + (tuple([put_in(term, table) for term in change.of_role(role)[3]]),)


def changed_start(meaning, change, role, words, things):
    """A changed start (role, words, things) by things."""
    head = start_words(change, role, words)
    table = given_table(change, role, things)
    return head + (tuple([value_of(meaning, term, table) for term in change.of_role(role)[3]]),)


def given_table(change, role, worths):
    """The table of what stands for the thing parameters of an old role."""
    return {("given", x): worth for x, worth in zip(change.old().start(role)[1], worths)}


def raised_deeds(change, deeds):
    """The raised deeds of deeds by terms."""
    makes, links, watches, sends, end = deeds
    raised_makes = tuple([make[:1] + start_terms(change, make[1], make[2], make[3]) for make in makes])
    raised_sends = tuple([send[:1] + changed_terms(change, send[1], send[2], send[3]) for send in sends])
    return (raised_makes, links, watches, raised_sends, end)


def raised_values(meaning, change, deeds):
    """The raised deeds of deeds by things."""
    makes, links, watches, sends, end = deeds
    raised_makes = tuple([make[:1] + changed_start(meaning, change, make[1], make[2], make[3]) for make in makes])
    raised_sends = tuple([send[:1] + changed_message(meaning, change, send[1], send[2], send[3]) for send in sends])
    return (raised_makes, links, watches, raised_sends, end)
