"""Markings, controls and beginnings."""

from movedactors.errors import BadControl, BadWords, UnknownName
from movedactors.parts import is_list, is_row
from movedactors.terms import put_in


def markings(book, marks):
    """The list of all markings of marks, in order."""
    found = [()]
    for _, sort in marks:
        words = book.words(sort)
        found = [marking + (word,) for marking in found for word in words]
    return found


def is_marking(book, marks, value):
    """Whether a value, which may be anything, is a list or tuple of the words of a marking of marks."""
    if not is_list(value) or len(value) != len(marks):
        return False
    return all([word in book.words(mark[1]) for word, mark in zip(value, marks)])


def controls(edition, role):
    """The list of the controls of a role, in order."""
    book = edition.book()
    return [(role, mode[0], words) for mode in edition.role(role)[1] for words in markings(book, mode[1])]


def is_control(edition, value):
    """Whether a value, which may be anything, is a control of the edition."""
    if not is_row(value, 3) or not isinstance(value[2], tuple):
        return False
    try:
        mode = edition.mode(value[0], value[1])
    except UnknownName:
        return False
    return is_marking(edition.book(), mode[1], value[2])


def takes(edition, control, kind):
    """Whether a control takes a kind."""
    if not is_control(edition, control):
        raise BadControl()
    edition.kind(kind)
    return kind in edition.taken(control[0], control[1])


def starts(edition, role):
    """The list of the markings of the mark parameters of a role's start, in order."""
    return markings(edition.book(), edition.start(role)[0])


def started(edition, role, words):
    """The beginning of a role for words: a control, and a tuple of terms."""
    marks, things, body = edition.start(role)
    if not is_marking(edition.book(), marks, words):
        raise BadWords()
    known = known_words(marks, words)
    end = walk_end(body, known)[5]
    table = sorted_variables("given", things)
    table["self"] = ("var", ("self",))
    terms = tuple([put_in(term, table) for term in end[3]])
    return ((role, end[1], said_words(end[2], known)), terms)


def known_words(marks, words):
    """The table of the words of marks, by their names."""
    return {mark[0]: word for mark, word in zip(marks, words)}


def walk_end(body, known):
    """The leaf at which the walk through a body ends, where a table tells the words of the marks."""
    while body[0] == "if":
        body = body[3] if known[body[1]] == body[2] else body[4]
    return body


def said_words(words, known):
    """Mark words with a word in the place of each, where a table tells the words of the marks."""
    return tuple([known[part[1]] if part[0] == "mark" else part[1] for part in words])


def sorted_variables(sort, names):
    """The table that puts a variable that tells its sort in for each name."""
    return {name: ("var", (sort, name)) for name in names}
