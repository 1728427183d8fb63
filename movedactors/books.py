"""Books: the sorts, primitives, ports and reasons that editions share."""

from movedactors.errors import BadBook, UnknownName
from movedactors.parts import WrongPart, check_new_name, is_key, is_list, is_row, require
from movedactors.words import is_number, is_word


class Book:
    """Sorts, primitives, ports and reasons."""

    def __init__(self, sorts, primitives, ports, reasons):
        try:
            check_sorts(sorts)
            check_primitives(primitives)
            check_plain_names(ports, (2,))
            check_plain_names(reasons, (3,))
        except WrongPart as wrong:
            raise BadBook(wrong.path) from None
        self._sorts = tuple(sorts) + (("why", ("ended", "closed") + tuple(reasons)),)
        self._primitives = tuple(primitives)
        self._ports = tuple(ports) + ("gone",)
        self._reasons = tuple(reasons)
        self._words = dict(self._sorts)
        self._counts = dict(self._primitives)

    def __eq__(self, other):
        return isinstance(other, Book) and self._parts() == other._parts()

    def _parts(self):
        return (self._sorts, self._primitives, self._ports, self._reasons)

    def sorts(self):
        """The list of the sorts, "why" the last one."""
        return list(self._sorts)

    def primitives(self):
        """The list of the primitives."""
        return list(self._primitives)

    def ports(self):
        """The list of the ports, "gone" the last one."""
        return list(self._ports)

    def reasons(self):
        """The list of the reasons."""
        return list(self._reasons)

    def words(self, sort):
        """The list of the words of a sort."""
        if not is_key(self._words, sort):
            raise UnknownName(sort)
        return list(self._words[sort])

    def count(self, primitive):
        """The number of arguments of a primitive."""
        if not is_key(self._counts, primitive):
            raise UnknownName(primitive)
        return self._counts[primitive]


def check_sorts(sorts):
    """The sorts of a book, which may be anything."""
    require(is_list(sorts), (0,))
    seen = []
    for k, sort in enumerate(sorts):
        require(is_row(sort, 2), (0, k))
        check_new_name(sort[0], (0, k, 0), seen)
        check_sort_words(sort[1], (0, k, 1))
        seen.append(sort[0])


def check_sort_words(words, path):
    """A tuple of one or more different words."""
    require(isinstance(words, tuple) and len(words) > 0, path)
    for k, word in enumerate(words):
        require(is_word(word) and word not in words[:k], path + (k,))


def check_primitives(primitives):
    """The primitives of a book, which may be anything."""
    require(is_list(primitives), (1,))
    seen = []
    for k, primitive in enumerate(primitives):
        require(is_row(primitive, 2), (1, k))
        check_new_name(primitive[0], (1, k, 0), seen)
        require(is_number(primitive[1]) and primitive[1] <= 2, (1, k, 1))
        seen.append(primitive[0])


def check_plain_names(names, path):
    """The ports or the reasons of a book, which may be anything."""
    require(is_list(names), path)
    seen = []
    for k, name in enumerate(names):
        check_new_name(name, path + (k,), seen)
        seen.append(name)
