"""Checks of the kinds of an edition, and of its roles without their bodies."""

from movedactors.parts import check_fields, check_new_name, is_key, is_list, is_row, require

GONE = ("gone", "gone", (("why", "why"),), ("who",))


class Code:
    """The kinds of an edition and the heads of its roles, by their names."""

    def __init__(self, book, kinds, roles):
        self.book = book
        self.kind_table = {kind[0]: kind for kind in kinds}
        self.kind_table["gone"] = GONE
        self.start_table = {role[0]: role[2] for role in roles}
        self.mode_table = {role[0]: {mode[0]: mode for mode in role[1]} for role in roles}

    def start_fields(self, role):
        """The mark parameters and the thing parameters of a role's start."""
        start = self.start_table[role]
        return (start[0], start[1])

    def kind_fields(self, kind):
        """The mark fields and the thing fields of a kind."""
        return (self.kind_table[kind][2], self.kind_table[kind][3])

    def mode_fields(self, role, mode):
        """The mark registers and the thing registers of a mode of a role."""
        found = self.mode_table[role][mode]
        return (found[1], found[2])

    def has_mode(self, role, name):
        """Whether a name, which may be anything, is that of a mode of a role."""
        return is_key(self.mode_table[role], name)

    def due(self, role):
        """The list of the pairs (mode, kind) of the handlers that a role has to have."""
        modes = self.mode_table[role]
        return [(mode, kind) for mode in modes for kind in self.taken(role, mode)]

    def taken(self, role, mode):
        """The list of the names of the kinds that a mode of a role takes, in order."""
        ports = self.mode_table[role][mode][3]
        return [kind for kind in self.kind_table if self.kind_table[kind][1] in ports]


def check_kinds(book, kinds):
    """The kinds of an edition, which may be anything."""
    require(is_list(kinds), (0,))
    ports = book.ports()[:-1]
    seen = []
    for k, kind in enumerate(kinds):
        require(is_row(kind, 4), (0, k))
        check_new_name(kind[0], (0, k, 0), seen)
        require(kind[1] in ports, (0, k, 1))
        check_fields(book, kind, (0, k), 2)
        seen.append(kind[0])


def check_heads(book, roles):
    """The roles of an edition, which may be anything, without the bodies and the handlers."""
    require(is_list(roles), (1,))
    seen = []
    for k, role in enumerate(roles):
        require(is_row(role, 4), (1, k))
        check_new_name(role[0], (1, k, 0), seen)
        check_modes(book, role[1], (1, k, 1))
        require(is_row(role[2], 3), (1, k, 2))
        check_fields(book, role[2], (1, k, 2), 0)
        seen.append(role[0])


def check_modes(book, modes, path):
    """The modes of a role, which may be anything."""
    require(isinstance(modes, tuple) and len(modes) > 0, path)
    seen = []
    for k, mode in enumerate(modes):
        place = path + (k,)
        require(is_row(mode, 5), place)
        check_new_name(mode[0], place + (0,), seen)
        check_fields(book, mode, place, 1)
        check_taken_ports(book, mode[3], place + (3,))
        require(isinstance(mode[4], bool), place + (4,))
        seen.append(mode[0])


def check_taken_ports(book, ports, path):
    """A tuple of different ports of a book."""
    require(isinstance(ports, tuple), path)
    known = book.ports()
    for k, port in enumerate(ports):
        require(port in known and port not in ports[:k], path + (k,))
