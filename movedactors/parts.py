"""Checks that books, editions and changes have in common: each raises WrongPart for the first wrong part."""

from movedactors.plain import path_of
from movedactors.words import is_name


class WrongPart(Exception):
    """The first wrong part, told by its path."""

    def __init__(self, path):
        Exception.__init__(self, "a wrong part")
        self.path = path


class Scope:
    """What terms and mark words may name: marks, pairs (name, sort), and variables."""

    def __init__(self, book, marks, variables):
        self.book = book
        self.marks = marks
        self.variables = variables
        self.counts = dict(book.primitives())


def require(holds, path):
    """Raises WrongPart(path) if something does not hold."""
    if not holds:
        raise WrongPart(path)


def is_list(value):
    """Whether a value may stand where a list is expected."""
    return isinstance(value, (list, tuple))


def is_row(value, many):
    """Whether a value is a tuple of so many members."""
    return isinstance(value, tuple) and len(value) == many


def is_told(value, word, many):
    """Whether a value is a tuple of so many members that begins with a word."""
    return is_row(value, many) and value[0] == word


def is_key(table, value):
    """Whether a value, which may be anything, is one of the words that a table has."""
    return isinstance(value, str) and value in table


def sort_of(marks, mark):
    """The sort of a mark, which may be anything, or None if it is none of the marks."""
    for name, sort in marks:
        if name == mark:
            return sort
    return None


def field_names(marks, things):
    """The names of marks and things, in order."""
    return [mark[0] for mark in marks] + list(things)


def check_new_name(value, path, earlier):
    """A name that is none of the earlier ones."""
    require(is_name(value) and value not in earlier, path)


def check_names(names, path, earlier):
    """A tuple of different names, none of which is one of the earlier ones."""
    require(isinstance(names, tuple), path)
    seen = list(earlier)
    for k, name in enumerate(names):
        check_new_name(name, path + (k,), seen)
        seen.append(name)


def check_marks(book, marks, path):
    """Marks with sorts of a book."""
    require(isinstance(marks, tuple), path)
    sorts = [sort[0] for sort in book.sorts()]
    seen = []
    for k, pair in enumerate(marks):
        require(is_row(pair, 2), path + (k,))
        check_new_name(pair[0], path + (k, 0), seen)
        require(pair[1] in sorts, path + (k, 1))
        seen.append(pair[0])


def check_fields(book, part, path, at):
    """Marks at a position of a part, and the things behind them, all with different names."""
    check_marks(book, part[at], path + (at,))
    check_names(part[at + 1], path + (at + 1,), field_names(part[at], ()))


def check_words(book, words, path, marks):
    """Words that fit marks."""
    require(is_row(words, len(marks)), path)
    for k, (_, sort) in enumerate(marks):
        require(words[k] in book.words(sort), path + (k,))


def check_mark_words(scope, words, path, marks):
    """Mark words that fit marks."""
    require(is_row(words, len(marks)), path)
    for k, (_, sort) in enumerate(marks):
        part = words[k]
        if is_told(part, "word", 2):
            require(part[1] in scope.book.words(sort), path + (k, 1))
        else:
            require(is_told(part, "mark", 2), path + (k,))
            require((part[1], sort) in scope.marks, path + (k, 1))


def check_term(scope, term, path):
    """A term over a scope."""
    check_placed(scope, [(term, path)], ())


def check_terms(scope, terms, path, many, once):
    """A tuple of so many terms, in which each variable of once stands at most once."""
    require(is_row(terms, many), path)
    check_placed(scope, [(term, path + (k,)) for k, term in enumerate(terms)], once)


def check_placed(scope, placed, once):
    """Pairs of a term and its path."""
    todo = [(term, (None, path)) for term, path in placed[::-1]]
    seen = []
    while todo:
        part, link = todo.pop()
        wrong = wrong_in_part(scope, part, seen)
        if wrong is not None:
            raise WrongPart(path_of((link, wrong)))
        if part[0] == "of":
            todo.extend([(part[2][k], (link, (2, k))) for k in reversed(range(len(part[2])))])
        elif part[1] in once:
            seen.append(part[1])


def wrong_in_part(scope, part, seen):
    """The path in a part of a term, which may be anything, of what is wrong in it but for its terms, or None."""
    if is_told(part, "var", 2):
        if part[1] not in scope.variables:
            return (1,)
        return () if part[1] in seen else None
    if not is_told(part, "of", 3):
        return ()
    if not is_key(scope.counts, part[1]):
        return (1,)
    return None if is_row(part[2], scope.counts[part[1]]) else (2,)


def check_filled(scope, row, path, fields, once):
    """Mark words at the position 2 of a row, and terms behind them, that fit fields, a pair of marks and things."""
    marks, things = fields
    check_mark_words(scope, row[2], path + (2,), marks)
    check_terms(scope, row[3], path + (3,), len(things), once)
