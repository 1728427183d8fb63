"""Fitted terms: what holders hold behind several histories, told by one term."""

from movedactors.nodes import Nodes


class Fitting:
    """What the holders and the registers of new modes hold behind some histories.

    Each is told by its worths: the tuple of the numbers of the terms that it holds behind the histories, in order.
    So two holders with the same worths hold the same terms, and what fits worths is found out once.
    """

    def __init__(self, holders, rows, registers):
        """rows has for each history the terms of the holders, registers for each one those of the new registers."""
        self._nodes = Nodes()
        self._worths = self._turned(rows, len(holders))
        self._registers = self._turned(registers, len(registers[0]))
        self._first = {}
        for holder, worths in zip(holders, self._worths):
            self._first.setdefault(worths, holder)
        self._done = {}

    def _turned(self, rows, many):
        """The list of the worths of so many columns of terms."""
        numbers = [self._nodes.numbers(row) for row in rows]
        return [tuple([row[k] for row in numbers]) for k in range(many)]

    def terms(self):
        """The list of the fitted terms of the new registers, None for one that has none."""
        return [self._fitted(worths) for worths in self._registers]

    def _fitted(self, worths):
        todo = [worths]
        while todo:
            part = todo[-1]
            members = self._members(part)
            if part in self._first:
                self._done[part] = ("var", self._first[part])
            elif members is None:
                self._done[part] = None
            else:
                missing = [member for member in members if member not in self._done]
                if missing:
                    todo.extend(missing)
                    continue
                self._done[part] = self._made(part, members)
            todo.pop()
        return self._done[worths]

    def _made(self, part, members):
        """The fitted term that is made of those of the members, or None if one of them has none."""
        terms = [self._done[member] for member in members]
        if not all([term is not None for term in terms]):
            return None
        return ("of", self._nodes.key(part[0])[1], tuple(terms))

    def _members(self, worths):
        """The list of the worths of the members, or None if the terms are not all made by the same primitive."""
        keys = [self._nodes.key(number) for number in worths]
        if not all([key[0] == "of" and key[1] == keys[0][1] for key in keys]):
            return None
        return [tuple([key[2][k] for key in keys]) for k in range(len(keys[0][2]))]

    def unfit(self, k):
        """The numbers of a few histories for which the new register number k, which has no fitted term, has none.

        On the way from the register down to a part that no term fits, a holder holds in one history at most one
        of the parts. So one history excludes it from all of them but one, and one more from this one.
        """
        path = [self._registers[k]]
        members = self._members(path[0])
        while members is not None:
            path.append([member for member in members if self._done[member] is None][0])
            members = self._members(path[-1])
        last = path[-1]
        keys = [self._nodes.key(number) for number in last]
        plain = [j for j in range(len(keys)) if keys[j][0] == "var"]
        first = (plain + [0])[0]
        chosen = {first: True}
        for worths in self._worths:
            for part in path:
                if part[first] == worths[first]:
                    chosen[[j for j in range(len(part)) if part[j] != worths[j]][0]] = True
        if not plain:
            chosen[[j for j in range(len(keys)) if keys[j][1] != keys[first][1]][0]] = True
        return sorted(chosen)
