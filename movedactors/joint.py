"""Joint controls of a change: where the old code and the new code stand when they are walked together."""

from movedactors.controls import is_control, is_marking, markings, starts
from movedactors.errors import NotNow, NotThere
from movedactors.handling import first_stand
from movedactors.meetings import joint_variables, met_at, terms_of
from movedactors.nodes import Nodes
from movedactors.parts import is_row
from movedactors.raising import start_terms
from movedactors.walks import SELF


class Joint:
    """The joint controls of a change.

    What was found out is kept: for each role that was asked for the table of its reached joint controls, with
    how the first one leads to each, the table of all that leads to them, and what happens at arrivals.
    """

    def __init__(self, change):
        self._change = change
        self._tables = {}
        self._leading = {}
        self._meetings = {}

    def change(self):
        """The change."""
        return self._change

    def begun(self, role):
        """The list of tuples (words, pair, terms) that tell where the codes begin."""
        change = self._change
        given = terms_of([("given", x) for x in change.old().start(role)[1]])
        found = []
        for words in starts(change.old(), role):
            old_control, old_terms = first_stand(change.old(), role, words, given, SELF)
            new_role, new_words, new_given = start_terms(change, role, words, given)
            new_control, new_terms = first_stand(change.new(), new_role, new_words, new_given, SELF)
            found.append((words, (old_control, new_control), old_terms + new_terms))
        return found

    def pairs(self, role):
        """The list of the reached joint controls of a role."""
        change = self._change
        change.old().role(role)
        return list(self._table(role))

    def _table(self, role):
        """The table of the reached joint controls: the words of a start, or an earlier one with an arrival."""
        if role not in self._tables:
            found = {}
            for words, pair, _ in self.begun(role):
                found.setdefault(pair, (None, words))
            todo = list(found)
            while todo:
                coming = []
                for pair in todo:
                    for arrival in self._arrivals(pair):
                        going = self._met(pair, arrival)[2]
                        if going is not None and going[0] not in found:
                            found[going[0]] = (pair, arrival)
                            coming.append(going[0])
                todo = coming
            self._tables[role] = found
        return self._tables[role]

    def leading(self, role):
        """The table of what leads to each reached joint control of a role: a list of tuples (pair, arrival, terms).

        Of the arrivals at a joint control that lead to the same one with the same terms there is the first one.
        """
        self._change.old().role(role)
        if role not in self._leading:
            found = {pair: [] for pair in self._table(role)}
            nodes = Nodes()
            for pair in self._table(role):
                seen = {}
                for arrival in self._arrivals(pair):
                    going = self._met(pair, arrival)[2]
                    if going is not None:
                        seen.setdefault((going[0], nodes.numbers(going[1])), (arrival, going[1]))
                for (follower, _), (arrival, terms) in seen.items():
                    found[follower].append((pair, arrival, terms))
            self._leading[role] = found
        table = self._leading[role]
        return {pair: table[pair] for pair in table}

    def _arrivals(self, pair):
        old = self._change.old()
        kinds = old.taken(pair[0][0], pair[0][1])
        return [(kind, words) for kind in kinds for words in markings(old.book(), old.kind(kind)[2])]

    def _met(self, pair, arrival):
        key = (pair, arrival)
        if key not in self._meetings:
            self._meetings[key] = met_at(self._change, pair, arrival[0], arrival[1])
        return self._meetings[key]

    def _require(self, pair):
        """Raises NotThere(pair) if pair, which may be anything, is not a reached joint control of some role."""
        change = self._change
        if not is_row(pair, 2) or not is_control(change.old(), pair[0]) or not is_control(change.new(), pair[1]):
            raise NotThere(pair)
        if pair not in self._table(pair[0][0]):
            raise NotThere(pair)

    def variables(self, pair):
        """The list of the variables of a joint control."""
        self._require(pair)
        return joint_variables(self._change, pair)

    def arrivals(self, pair):
        """The list of the arrivals that come next at a joint control, in order."""
        self._require(pair)
        return self._arrivals(pair)

    def heeds(self, pair):
        """Whether the old control heeds, and whether the new one does."""
        self._require(pair)
        old, new = pair
        return (self._change.old().mode(old[0], old[1])[4], self._change.new().mode(new[0], new[1])[4])

    def meeting(self, pair, kind, words):
        """The tuple (place, demands, going) for an arrival at a joint control."""
        self._require(pair)
        old = self._change.old()
        if kind not in old.taken(pair[0][0], pair[0][1]):
            raise NotNow()
        if not is_marking(old.book(), old.kind(kind)[2], words):
            raise NotNow()
        return self._met(pair, (kind, tuple(words)))

    def history_of(self, pair):
        """An open history to a joint control that comes to no joint control twice."""
        self._require(pair)
        table = self._table(pair[0][0])
        steps = []
        earlier, led = table[pair]
        while earlier is not None:
            steps.append(led)
            earlier, led = table[earlier]
        return (pair[0][0], led, tuple(steps[::-1]))
