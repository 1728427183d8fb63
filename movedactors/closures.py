"""Classes of terms that follow from pairs of terms."""

from movedactors.nodes import Nodes, root_of


class Closure:
    """The classes of pairs of terms, and the rows of a derivation that joins all that is of one class.

    A table tells a node for each primitive and roots of members. The users of a root are the nodes that have a
    member in its class.
    """

    def __init__(self, pairs):
        self._nodes = Nodes()
        self._links = {}
        self._users = []
        self._table = {}
        self._rows = []
        for k, (one, other) in enumerate(pairs):
            self._join(self.added(one), self.added(other), ("told", k))

    def nodes(self):
        """The nodes of all terms that were added, with their parts."""
        return self._nodes

    def rows(self):
        """The list of the rows, in the order in which classes were joined."""
        return list(self._rows)

    def added(self, term):
        """Adds a term with its parts, and returns its node."""
        number = self._nodes.number(term)
        known = len(self._users)
        for new in range(known, self._nodes.many()):
            self._users.append([])
            if self._nodes.key(new)[0] == "of":
                self._enter(new)
        return number

    def root(self, number):
        """The node that stands for the class of a node."""
        return root_of(self._links, number)

    def _roots(self, number):
        _, name, members = self._nodes.key(number)
        return (name, tuple([self.root(member) for member in members]))

    def _enter(self, number):
        roots = self._roots(number)
        for member in roots[1]:
            self._users[member].append(number)
        if roots in self._table:
            self._join(number, self._table[roots], self._parts_row(number, self._table[roots]))
        else:
            self._table[roots] = number

    def _parts_row(self, one, other):
        return ("parts", self._nodes.term(one), self._nodes.term(other))

    def _join(self, one, other, row):
        todo = [(one, other, row)]
        while todo:
            one, other, row = todo.pop()
            low, high = self.root(one), self.root(other)
            if low == high:
                continue
            if len(self._users[low]) > len(self._users[high]):
                low, high = high, low
            self._rows.append(row)
            self._links[low] = high
            todo.extend(self._joined_users(low, high))

    def _joined_users(self, low, high):
        """What has to be joined once the class of low has become a part of the class of high."""
        found = []
        moved = self._users[low]
        self._users[low] = []
        for user in moved:
            roots = self._roots(user)
            other = self._table.setdefault(roots, user)
            if self.root(other) != self.root(user):
                found.append((user, other, self._parts_row(user, other)))
        self._users[high].extend(moved)
        return found
