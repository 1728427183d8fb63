"""Trees of supervisors and slots."""

from movedactors.parts import Scope, check_new_name, check_terms, check_words, is_key, is_told, require
from movedactors.words import is_number

WAYS = ("one", "all", "behind")


def check_tree(code, tree):
    """The tree of an edition, which may be anything."""
    require(isinstance(tree, tuple), (2,))
    todo = [(tree[k], (2, k)) for k in reversed(range(len(tree)))]
    names = []
    addresses = []
    while todo:
        part, path = todo.pop()
        if is_told(part, "slot", 5) and len(path) > 2:
            check_slot(code, part, path, addresses)
            addresses.append(part[1])
        else:
            check_supervisor(part, path, names)
            names.append(part[1])
            todo.extend([(part[4][k], path + (4, k)) for k in reversed(range(len(part[4])))])


def check_supervisor(part, path, earlier):
    """A supervisor without its children."""
    require(is_told(part, "supervisor", 5), path)
    check_new_name(part[1], path + (1,), earlier)
    require(part[2] in WAYS, path + (2,))
    require(is_number(part[3]), path + (3,))
    require(isinstance(part[4], tuple) and len(part[4]) > 0, path + (4,))


def check_slot(code, part, path, earlier):
    """A slot."""
    require(is_number(part[1]) and part[1] > 0 and part[1] not in earlier, path + (1,))
    require(is_key(code.start_table, part[2]), path + (2,))
    marks, things = code.start_fields(part[2])
    check_words(code.book, part[3], path + (3,), marks)
    check_terms(Scope(code.book, (), ()), part[4], path + (4,), len(things), ())


def tree_parts(tree):
    """The list of the pairs of a supervisor or slot and the name of its own supervisor, None for outermost ones."""
    found = []
    todo = [(part, None) for part in reversed(tree)]
    while todo:
        part, above = todo.pop()
        found.append((part, above))
        if part[0] == "supervisor":
            todo.extend([(child, part[1]) for child in reversed(part[4])])
    return found


def tree_slots(tree):
    """The list of the slots, each with the name of its own supervisor at the end."""
    return [part[1:] + (above,) for part, above in tree_parts(tree) if part[0] == "slot"]


def tree_supervisors(tree):
    """The list of the supervisors, with the names and addresses of their children."""
    parts = [part for part, _ in tree_parts(tree) if part[0] == "supervisor"]
    return [part[1:4] + (tuple([child[1] for child in part[4]]),) for part in parts]


def is_same_shape(old, new, leads):
    """Whether two trees have the same shape, where the table leads tells the new role of each old one."""
    todo = [(old, new)]
    while todo:
        olds, news = todo.pop()
        if len(olds) != len(news):
            return False
        for one, other in zip(olds, news):
            if one[0] != other[0] or one[1] != other[1]:
                return False
            if one[0] == "slot" and leads[one[2]] != other[2]:
                return False
            if one[0] == "supervisor":
                todo.append((one[4], other[4]))
    return True
