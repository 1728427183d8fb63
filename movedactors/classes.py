"""Classes of terms, and derivations that show them."""

from movedactors.closures import Closure
from movedactors.nodes import Nodes, root_of
from movedactors.parts import is_told
from movedactors.terms import wrong_part
from movedactors.words import is_number


class Classes:
    """The classes of a list of pairs of terms for a list of primitives."""

    def __init__(self, primitives, pairs):
        self._primitives = tuple(primitives)
        self._pairs = tuple(pairs)
        self._closure = Closure(self._pairs)

    def is_same(self, one, other):
        """Whether two terms are of one class."""
        closure = self._closure
        first = closure.added(one)
        second = closure.added(other)
        return closure.root(first) == closure.root(second)

    def derivation(self, one, other):
        """A derivation that shows that two terms are of one class, or None if they are not."""
        # A closure of its own, since the common one has met terms that this derivation must not name.
        closure = Closure(self._pairs)
        first = closure.added(one)
        second = closure.added(other)
        if closure.root(first) != closure.root(second):
            return None
        return tuple(closure.rows())

    def first_wrong(self, rows, one, other):
        """None if rows, which may be anything, show that two terms are of one class, otherwise where they do not."""
        if not isinstance(rows, tuple):
            return 0
        joined = Joined()
        for k, row in enumerate(rows):
            pair = self._pair_of_row(joined, row)
            if pair is None:
                return k
            joined.add_pair(pair[0], pair[1])
        return None if joined.are_joined(one, other) else len(rows)

    def _pair_of_row(self, joined, row):
        """The two terms that a row, which may be anything, joins, or None if it is wrong."""
        if is_told(row, "told", 2):
            return self._pairs[row[1]] if is_number(row[1]) and row[1] < len(self._pairs) else None
        if not is_told(row, "parts", 3):
            return None
        if wrong_part(self._primitives, row[1]) is not None or wrong_part(self._primitives, row[2]) is not None:
            return None
        return row[1:] if joined.have_joined_members(row[1], row[2]) else None


class Joined:
    """Terms that rows of a derivation have joined."""

    def __init__(self):
        self._nodes = Nodes()
        self._links = {}

    def add_pair(self, one, other):
        """Joins two terms."""
        first = self._root(one)
        second = self._root(other)
        if first != second:
            self._links[first] = second

    def are_joined(self, one, other):
        """Whether two terms are the same or joined by chains."""
        return self._root(one) == self._root(other)

    def have_joined_members(self, one, other):
        """Whether two terms begin with the same primitive and have the same or joined members, one by one."""
        if one[0] != "of" or other[0] != "of" or one[1] != other[1]:
            return False
        return all([self.are_joined(left, right) for left, right in zip(one[2], other[2])])

    def _root(self, term):
        return root_of(self._links, self._nodes.number(term))
