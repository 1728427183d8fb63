"""Chains: changes that are composed into one, and changes that only rename and are turned."""

from movedactors.changes import Change
from movedactors.errors import MixedEditions, NotTurned, TooLong
from movedactors.parts import field_names, sort_of
from movedactors.terms import folded, put_in, size

LONGEST_TERM = 400


def composed(first, second):
    """The change that does what two changes do one after the other."""
    if first.new() != second.old():
        raise MixedEditions()
    kinds = [composed_row(first, second, row, second.of_kind(row[1]), "field") for row in first.kinds()]
    roles = [composed_row(first, second, row, second.of_role(row[1]), "given") for row in first.roles()]
    rows = []
    for row in first.rows():
        role = first.of_role(row[0][0])[1]
        more = second.row((role, row[1], row[2]))
        if more is not None:
            names = second.old().mode(role, row[1])[2]
            rows.append((row[0],) + more[1:3] + (composed_terms(more[3], "register", names, row[3]),))
    return Change(first.old(), second.new(), kinds, roles, rows)


def fields_of(edition, name, word):
    """The pair of the marks and the things of a kind, for the word "field", or of a role's start, for "given"."""
    return edition.kind(name)[2:] if word == "field" else edition.start(name)[:2]


def composed_row(first, second, row, more, word):
    """The tuple for a kind or a role, for that of the first change and that of the second one."""
    olds, _ = fields_of(first.old(), row[0], word)
    marks, names = fields_of(second.old(), row[1], word)
    known = {mark[0]: part for mark, part in zip(marks, row[2])}
    words = [composed_word(first.old().book(), olds, known, part) for part in more[2]]
    return (row[0], more[1], tuple(words), composed_terms(more[3], word, names, row[3]))


def composed_word(book, olds, known, part):
    """A changed mark word of the second change, where a table tells what the first one has for its marks."""
    if part[0] == "word":
        return part
    told = known[part[1]]
    if part[0] == "mark":
        return told
    table = dict(part[2])
    if told[0] == "word":
        return ("word", table[told[1]])
    if told[0] == "mark":
        pairs = [(word, word) for word in book.words(sort_of(olds, told[1]))]
    else:
        pairs = told[2]
    return ("table", told[1], tuple([(word, table[middle]) for word, middle in pairs]))


def composed_terms(terms, word, names, others):
    """The tuple of the terms that result when other terms are put in for the variables (word, name)."""
    table = {(word, name): other for name, other in zip(names, others)}
    sizes = {variable: size(table[variable]) for variable in table}
    for term in terms:
        if size_with(term, sizes) > LONGEST_TERM:
            raise TooLong(LONGEST_TERM)
    return tuple([put_in(term, table) for term in terms])


def size_with(term, sizes):
    """The size that a term gets when terms of these sizes are put in for its variables."""
    return folded(
        term,
        lambda part: sizes.get(part[1], 1),
        lambda part, members: 1 + sum(members),
    )


def turned(change):
    """The change that leads back, if a change only renames."""
    old = change.old()
    new = change.new()
    kinds = turned_rows(change, change.kinds(), [kind[0] for kind in new.kinds()[:-1]], "field")
    roles = turned_rows(change, change.roles(), [role[0] for role in new.roles()], "given")
    return Change(new, old, kinds, roles, ())


def turned_rows(change, rows, names, word):
    """The list of the turned tuples for all new kinds or roles, in the order of their names."""
    found = {}
    for row in rows:
        olds = fields_of(change.old(), row[0], word)
        news = fields_of(change.new(), row[1], word)
        if row[1] in found or not is_renaming(change.new().book(), row, olds, news):
            raise NotTurned(row[0])
        found[row[1]] = turned_row(change.new().book(), row, olds, news)
    for name in names:
        if name not in found:
            raise NotTurned(name)
    return [found[name] for name in names]


def is_renaming(book, row, olds, news):
    """Whether the tuple for a kind or a role only renames its marks and things, where olds and news tell these."""
    if not all([is_renaming_word(book, part, sort) for part, (_, sort) in zip(row[2], news[0])]):
        return False
    if not all([term[0] == "var" for term in row[3]]):
        return False
    marks = [part[1] for part in row[2]]
    things = [term[1][1] for term in row[3]]
    return sorted(marks) == sorted(field_names(olds[0], ())) and sorted(things) == sorted(olds[1])


def is_renaming_word(book, part, sort):
    """Whether a changed mark word for a mark of a sort gives each word of the sort for exactly one old word."""
    if part[0] == "table":
        different = {pair[1]: True for pair in part[2]}
        return len(different) == len(part[2]) == len(book.words(sort))
    return part[0] == "mark"


def turned_row(book, row, olds, news):
    """The turned tuple of one that only renames."""
    parts = {part[1]: (mark, part) for part, mark in zip(row[2], news[0])}
    words = [turned_word(book, parts[mark[0]][0], parts[mark[0]][1]) for mark in olds[0]]
    names = {term[1]: (term[1][0], name) for term, name in zip(row[3], news[1])}
    things = {variable[1]: ("var", names[variable]) for variable in names}
    return (row[1], row[0], tuple(words), tuple([things[name] for name in olds[1]]))


def turned_word(book, mark, part):
    """The changed mark word that undoes the one for a new mark."""
    name, sort = mark
    if part[0] == "mark":
        return ("mark", name)
    back = {new: old for old, new in part[2]}
    return ("table", name, tuple([(word, back[word]) for word in book.words(sort)]))
