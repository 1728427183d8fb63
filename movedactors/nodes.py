"""Numbers for terms, and links that join them."""

from movedactors.terms import folded


class Nodes:
    """Gives each term a number, the same one for the same term. The terms of a term have smaller numbers.

    Terms with numbers are compared at once, and what is found out about a term that stands at many places is
    found out once.
    """

    def __init__(self):
        self._numbers = {}
        self._keys = []
        self._terms = []

    def many(self):
        """How many terms have a number."""
        return len(self._keys)

    def key(self, number):
        """("var", v), or ("of", name, numbers) with the numbers of the members."""
        return self._keys[number]

    def term(self, number):
        """The term that has a number."""
        return self._terms[number]

    def of_key(self, key):
        """The number of the term that has a key."""
        if key not in self._numbers:
            self._numbers[key] = len(self._keys)
            self._keys.append(key)
            if key[0] == "var":
                self._terms.append(key)
            else:
                self._terms.append(("of", key[1], tuple([self._terms[member] for member in key[2]])))
        return self._numbers[key]

    def number(self, term):
        """The number of a term."""
        return folded(
            term,
            lambda part: self.of_key(part),
            lambda part, members: self.of_key(("of", part[1], members)),
        )

    def numbers(self, terms):
        """The tuple of the numbers of terms."""
        return tuple([self.number(term) for term in terms])


def root_of(links, number):
    """The last node to which links lead from a node. Links that are gone along become shorter."""
    while number in links:
        above = links[number]
        if above in links:
            links[number] = links[above]
        number = above
    return number
