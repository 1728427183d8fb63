"""Equations between terms over registers, and their solved form."""

from movedactors.nodes import Nodes
from movedactors.plain import is_same_value
from movedactors.terms import folded
from movedactors.uniting import Uniting


class Solved:
    """Equations that can hold.

    The registers have the first nodes, in order. A table has, for each register with a pair, by its node, the
    node of the term of its pair.
    """

    def __init__(self, registers, constants):
        self._registers = tuple(registers)
        self._constants = tuple(constants)
        self._nodes = Nodes()
        self._bound = {}
        for variable in self._registers:
            self._nodes.of_key(("var", variable))

    def __eq__(self, other):
        return isinstance(other, Solved) and is_same_value(self._parts(), other._parts())

    def _parts(self):
        return (self._registers, self._constants, tuple(self.equations()))

    def made_equal(self, one, other):
        """Adds an equation: "had" if it followed, "new" if it did not; "never" if it cannot hold and is not added."""
        first = self._normal_number(one)
        second = self._normal_number(other)
        if first == second:
            return "had"
        uniting = Uniting(self._nodes, len(self._registers), self._constants)
        if not uniting.unite(first, second):
            return "never"
        bound = {}
        for k in range(len(self._registers)):
            number = uniting.resolved(self._bound.get(k, k))
            if number is None:
                return "never"
            if number != k:
                bound[k] = number
        self._bound = bound
        return "new"

    def holds(self, one, other):
        """Whether an equation follows."""
        return self._normal_number(one) == self._normal_number(other)

    def normal(self, term):
        """The normal term of a term."""
        return self._nodes.term(self._normal_number(term))

    def equations(self):
        """The solved form, a list of pairs (register, term)."""
        bound = self._bound
        return [(self._registers[k], self._nodes.term(bound[k])) for k in range(len(self._registers)) if k in bound]

    def twin(self):
        """Another one with the same registers, constants and equations."""
        other = Solved(self._registers, self._constants)
        for variable, term in self.equations():
            other.made_equal(("var", variable), term)
        return other

    def _normal_number(self, term):
        nodes = self._nodes
        return folded(
            term,
            lambda part: self._variable_number(part),
            lambda part, members: nodes.of_key(("of", part[1], members)),
        )

    def _variable_number(self, part):
        number = self._nodes.of_key(part)
        return self._bound.get(number, number)
