"""Checks of what systems are made of: each raises BadSystem(word) for the first part that is wrong."""

from movedactors.errors import BadSystem
from movedactors.parts import is_list
from movedactors.shapes import is_birth_of, is_place, is_state
from movedactors.trees import tree_slots
from movedactors.words import is_number


def check_chain(editions, changes):
    """Editions of equal books, and the changes that lead from one to the next."""
    books = [edition.book() for edition in editions]
    if not books or not all([book == books[0] for book in books]):
        raise BadSystem("editions")
    if len(changes) != len(editions) - 1:
        raise BadSystem("changes")
    for k, change in enumerate(changes):
        if (change.old(), change.new()) != (editions[k], editions[k + 1]):
            raise BadSystem("changes")


def check_first(editions, first):
    """The number of an edition, which may be anything."""
    if not is_place(editions, first):
        raise BadSystem("first")


def check_actors(editions, actors):
    """The rows of first actors, which may be anything."""
    if not is_list(actors) or not all([is_first_actor(editions, row) for row in actors]):
        raise BadSystem("actors")
    addresses = {row[0]: True for row in actors}
    slots = [slot[0] for edition in editions for slot in tree_slots(edition.tree())]
    if len(addresses) != len(actors) or not all([address in addresses for address in slots]):
        raise BadSystem("actors")


def is_first_actor(editions, row):
    """Whether something, which may be anything, is the row of a first actor."""
    if not isinstance(row, tuple) or not 5 <= len(row) <= 6:
        return False
    if not is_address(row[0]) or not is_birth_of(editions, row[1:5]):
        return False
    if len(row) == 5:
        return True
    return is_state(editions[row[1]], row[5]) and row[5][0][0] == row[2]


def is_address(value):
    """Whether a value, which may be anything, is an address."""
    return is_number(value) and value > 0


def check_supply(actors, supply):
    """The supply, which may be anything: different addresses, none of them that of a first actor."""
    if not is_list(supply) or not all([is_address(address) for address in supply]):
        raise BadSystem("supply")
    taken = [row[0] for row in actors]
    if len(set(supply)) != len(supply) or any([address in taken for address in supply]):
        raise BadSystem("supply")
