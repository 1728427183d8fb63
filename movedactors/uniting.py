"""Terms over registers that are made equal."""

from movedactors.nodes import root_of


class Uniting:
    """Classes of nodes that are made equal. The nodes below many are the registers, in order.

    The root of a class is a node that is no register, if the class has one, otherwise its earliest register.
    """

    def __init__(self, nodes, many, constants):
        self._nodes = nodes
        self._many = many
        self._constants = constants
        self._links = {}
        self._done = {}

    def root(self, number):
        """The root of the class of a node."""
        return root_of(self._links, number)

    def unite(self, one, other):
        """Makes two nodes equal, and returns False if two different terms would have to be the same then."""
        todo = [(one, other)]
        while todo:
            left, right = todo.pop()
            roots = (self.root(left), self.root(right))
            low, high = min(roots), max(roots)
            if low == high:
                continue
            if high < self._many:
                self._links[high] = low
            elif low < self._many:
                self._links[low] = high
            elif self._has_same_name(low, high):
                self._links[low] = high
                todo.extend(list(zip(self._nodes.key(low)[2], self._nodes.key(high)[2])))
            else:
                return False
        return True

    def _has_same_name(self, one, other):
        left = self._nodes.key(one)
        right = self._nodes.key(other)
        return left[0] == "of" and right[0] == "of" and left[1] == right[1]

    def resolved(self, number):
        """The node of the term that a register, or what one is equal to, has to be.

        None if it would be a part of itself, or if a variable that is no register and no constant is a part of it.
        """
        begun = {}
        todo = [(number, False)]
        while todo:
            part, is_ready = todo.pop()
            part = self.root(part)
            key = self._nodes.key(part)
            if part in self._done:
                continue
            if key[0] == "var":
                if part >= self._many and key[1] not in self._constants:
                    return None
                self._done[part] = part
            elif is_ready:
                members = [self._done[self.root(member)] for member in key[2]]
                self._done[part] = self._nodes.of_key(("of", key[1], tuple(members)))
            elif part in begun:
                return None
            else:
                begun[part] = True
                todo.append((part, True))
                todo.extend([(member, False) for member in key[2]])
        return self._done[self.root(number)]
