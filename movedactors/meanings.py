"""Meanings of primitives, and values of terms."""

from movedactors.closures import Closure
from movedactors.errors import BadMeaning
from movedactors.parts import is_list, is_row
from movedactors.terms import folded
from movedactors.words import is_number, is_word

LOW_THINGS = 100


class Meaning:
    """What primitives give for tuples of things. What is not in its tables is 0."""

    def __init__(self, tables):
        if not isinstance(tables, dict):
            raise BadMeaning()
        self._tables = {}
        for name in tables:
            if not is_word(name) or not is_table(tables[name]):
                raise BadMeaning()
            results = {things: result for things, result in tables[name] if result > 0}
            if results:
                self._tables[name] = results

    def __eq__(self, other):
        return isinstance(other, Meaning) and self._tables == other._tables

    def apply(self, name, things):
        """The thing that a primitive gives for a tuple of things."""
        return self._tables.get(name, {}).get(tuple(things), 0)

    def tables(self):
        """The table of the lists of the pairs (arguments, result) that do not have the result 0, by the names."""
        found = {}
        for name in sorted(self._tables):
            results = self._tables[name]
            found[name] = [(things, results[things]) for things in sorted(results)]
        return found


def is_table(pairs):
    """Whether something, which may be anything, is a list of pairs of arguments, all different, and results."""
    if not is_list(pairs):
        return False
    if not all([is_row(pair, 2) and is_arguments(pair[0]) and is_number(pair[1]) for pair in pairs]):
        return False
    different = {pair[0]: True for pair in pairs}
    lengths = {len(pair[0]): True for pair in pairs}
    return len(different) == len(pairs) and len(lengths) <= 1


def is_arguments(things):
    """Whether something, which may be anything, is a tuple of at most two things."""
    return isinstance(things, tuple) and len(things) <= 2 and all([is_number(thing) for thing in things])


def value_of(meaning, term, values):
    """The value of a term, where a table has the things of its variables."""
    return folded(
        term,
        lambda part: values[part[1]],
        lambda part, things: meaning.apply(part[1], things),
    )


def unlike(terms, fixed):
    """A meaning, and things for the variables, by which different parts of terms have different values."""
    return by_classes((), terms, fixed)


def by_classes(pairs, terms, fixed):
    """A meaning, and things for the variables, by which parts have the same value if they are of one class."""
    closure = Closure(pairs)
    for term in terms:
        closure.added(term)
    nodes = closure.nodes()
    things = things_of_classes(closure, fixed)
    values = {}
    tables = {}
    for number in range(nodes.many()):
        key = nodes.key(number)
        thing = things[closure.root(number)]
        if key[0] == "var":
            values[key[1]] = thing
        else:
            results = tables.setdefault(key[1], {})
            results[tuple([things[closure.root(member)] for member in key[2]])] = thing
    return (Meaning({name: list(tables[name].items()) for name in tables}), values)


def things_of_classes(closure, fixed):
    """The table of a thing for each class, by its root: that of a key of fixed, or a new one."""
    nodes = closure.nodes()
    things = {}
    for number in range(nodes.many()):
        key = nodes.key(number)
        if key[0] == "var" and key[1] in fixed:
            things[closure.root(number)] = fixed[key[1]]
    used = {thing: True for thing in list(fixed.values())}
    thing = LOW_THINGS
    for number in range(nodes.many()):
        if closure.root(number) not in things:
            thing += 1
            while thing in used:
                thing += 1
            things[closure.root(number)] = thing
    return things
