"""Changes: how messages, starts and actors of one edition are written in the next one."""

from movedactors.controls import is_control
from movedactors.errors import BadChange, MixedEditions, UnknownName
from movedactors.parts import Scope, WrongPart, check_terms, check_words
from movedactors.parts import is_key, is_list, is_row, is_told, require, sort_of
from movedactors.plain import is_same_value
from movedactors.trees import is_same_shape


class Change:
    """A change that leads from an old edition to a new one."""

    def __init__(self, old, new, kinds, roles, rows):
        if old.book() != new.book():
            raise MixedEditions()
        try:
            check_kind_rows(old, new, kinds)
            check_role_rows(old, new, roles)
            leads = {row[0]: row[1] for row in roles}
            check_rows(old, new, leads, rows)
            require(is_same_shape(old.tree(), new.tree(), leads), (3,))
        except WrongPart as wrong:
            raise BadChange(wrong.path) from None
        self._old = old
        self._new = new
        self._kinds = {row[0]: row for row in kinds}
        self._roles = {row[0]: row for row in roles}
        self._rows = {row[0]: row for row in rows}

    def __eq__(self, other):
        if not isinstance(other, Change) or self._old != other._old or self._new != other._new:
            return False
        return is_same_value(self._parts(), other._parts())

    def _parts(self):
        rows = sorted(self.rows(), key=lambda row: row[0])
        return (tuple(self.kinds()), tuple(self.roles()), tuple(rows))

    def old(self):
        """The old edition."""
        return self._old

    def new(self):
        """The new edition."""
        return self._new

    def kinds(self):
        """The list of the tuples for the kinds of the old edition."""
        return list(self._kinds.values())

    def roles(self):
        """The list of the tuples for the roles of the old edition."""
        return list(self._roles.values())

    def rows(self):
        """The list of the rows."""
        return list(self._rows.values())

    def of_kind(self, name):
        """The tuple for a kind of the old edition."""
        if not is_key(self._kinds, name):
            raise UnknownName(name)
        return self._kinds[name]

    def of_role(self, name):
        """The tuple for a role of the old edition."""
        if not is_key(self._roles, name):
            raise UnknownName(name)
        return self._roles[name]

    def row(self, control):
        """The row for a control, or None."""
        if not is_control(self._old, control):
            return None
        return self._rows.get(control)

    def with_rows(self, rows):
        """The change with other rows."""
        return Change(self._old, self._new, self.kinds(), self.roles(), rows)


def words_by_row(row, marks, words):
    """The words that a tuple of kinds or roles makes of words that fit the old marks."""
    known = {mark[0]: word for mark, word in zip(marks, words)}
    return tuple([changed_word(part, known) for part in row[2]])


def changed_word(part, known):
    """The word that a changed mark word becomes, where a table tells the words of the old marks."""
    if part[0] == "word":
        return part[1]
    word = known[part[1]]
    if part[0] == "mark":
        return word
    return dict(part[2])[word]


def check_kind_rows(old, new, kinds):
    """The kinds of a change, which may be anything."""
    dues = old.kinds()[:-1]
    require(is_list(kinds) and len(kinds) == len(dues), (0,))
    for k, due in enumerate(dues):
        row = kinds[k]
        require(is_told(row, due[0], 4), (0, k))
        found = [kind for kind in new.kinds() if kind[0] == row[1] and kind[1] == due[1]]
        require(found, (0, k, 1))
        scope = Scope(old.book(), due[2], [("field", x) for x in due[3]])
        check_changed(scope, row, (0, k), found[0][2], found[0][3])


def check_role_rows(old, new, roles):
    """The roles of a change, which may be anything."""
    dues = old.roles()
    require(is_list(roles) and len(roles) == len(dues), (1,))
    for k, due in enumerate(dues):
        row = roles[k]
        require(is_told(row, due[0], 4), (1, k))
        found = [role[2] for role in new.roles() if role[0] == row[1]]
        require(found, (1, k, 1))
        scope = Scope(old.book(), due[2][0], [("given", x) for x in due[2][1]])
        check_changed(scope, row, (1, k), found[0][0], found[0][1])


def check_changed(scope, row, path, marks, things):
    """The changed mark words and the terms of a member of kinds or roles, for new marks and things."""
    require(is_row(row[2], len(marks)), path + (2,))
    for k, (_, sort) in enumerate(marks):
        require(is_changed_word(scope, row[2][k], scope.book.words(sort), sort), path + (2, k))
    check_terms(scope, row[3], path + (3,), len(things), ())


def is_changed_word(scope, part, words, sort):
    """Whether something, which may be anything, is a changed mark word for a new sort with these words."""
    if is_told(part, "word", 2):
        return part[1] in words
    if is_told(part, "mark", 2):
        return (part[1], sort) in scope.marks
    if not is_told(part, "table", 3):
        return False
    old_sort = sort_of(scope.marks, part[1])
    return old_sort is not None and is_table(scope.book.words(old_sort), words, part[2])


def is_table(olds, news, pairs):
    """Whether something, which may be anything, has a pair with a new word for each old word, in order."""
    if not is_row(pairs, len(olds)):
        return False
    return all([is_told(pair, old, 2) and pair[1] in news for old, pair in zip(olds, pairs)])


def check_rows(old, new, leads, rows):
    """The rows of a change, which may be anything; the table leads tells the new role of each old one."""
    require(is_list(rows), (2,))
    seen = {}
    for k, row in enumerate(rows):
        require(is_row(row, 4), (2, k))
        control = row[0]
        require(is_control(old, control) and control not in seen, (2, k, 0))
        seen[control] = True
        modes = {mode[0]: mode for mode in new.role(leads[control[0]])[1]}
        require(is_key(modes, row[1]), (2, k, 1))
        mode = modes[row[1]]
        check_words(old.book(), row[2], (2, k, 2), mode[1])
        holders = [("register", x) for x in old.mode(control[0], control[1])[2]]
        check_terms(Scope(old.book(), (), holders + [("self",)]), row[3], (2, k, 3), len(mode[2]), ())
