"""Editions: kinds of messages, roles and a tree of supervisors."""

from movedactors.bodies import check_bodies
from movedactors.errors import BadEdition, UnknownName
from movedactors.heads import Code, check_heads, check_kinds
from movedactors.parts import WrongPart, is_key
from movedactors.plain import is_same_value
from movedactors.trees import check_tree, tree_slots, tree_supervisors


class Edition:
    """An edition of the code of a book."""

    def __init__(self, book, kinds, roles, tree):
        try:
            check_kinds(book, kinds)
            check_heads(book, roles)
            code = Code(book, kinds, roles)
            check_bodies(code, roles)
            check_tree(code, tree)
        except WrongPart as wrong:
            raise BadEdition(wrong.path) from None
        self._book = book
        self._code = code
        self._kinds = tuple(kinds)
        self._roles = {role[0]: role for role in roles}
        self._tree = tree
        self._bodies = {(role[0], row[0], row[1]): row[2] for role in roles for row in role[3]}

    def __eq__(self, other):
        return isinstance(other, Edition) and self._book == other._book and is_same_value(self._parts(), other._parts())

    def _parts(self):
        return (self._kinds, tuple(list(self._roles.values())), self._tree)

    def book(self):
        """The book of the edition."""
        return self._book

    def kinds(self):
        """The list of the kinds, "gone" the last one."""
        return list(self._code.kind_table.values())

    def roles(self):
        """The list of the roles."""
        return list(self._roles.values())

    def tree(self):
        """The tree."""
        return self._tree

    def kind(self, name):
        """A kind by its name."""
        if not is_key(self._code.kind_table, name):
            raise UnknownName(name)
        return self._code.kind_table[name]

    def role(self, name):
        """A role by its name."""
        if not is_key(self._roles, name):
            raise UnknownName(name)
        return self._roles[name]

    def mode(self, role, name):
        """A mode of a role by its name."""
        if not is_key(self._roles, role):
            raise UnknownName(role)
        if not self._code.has_mode(role, name):
            raise UnknownName(name)
        return self._code.mode_table[role][name]

    def start(self, role):
        """The start of a role."""
        return self.role(role)[2]

    def body(self, role, mode, kind):
        """The body of the handler of a mode and a kind."""
        if kind not in self.taken(role, mode):
            raise UnknownName(kind)
        return self._bodies[(role, mode, kind)]

    def taken(self, role, mode):
        """The list of the names of the kinds that a mode takes, in order."""
        self.mode(role, mode)
        return self._code.taken(role, mode)

    def slots(self):
        """The list of the slots as tuples (address, role, words, things, supervisor)."""
        return tree_slots(self._tree)

    def supervisors(self):
        """The list of the supervisors as tuples (name, way, limit, children)."""
        return tree_supervisors(self._tree)
