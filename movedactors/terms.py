"""Terms: their parts, their measures, and putting in."""

from movedactors.plain import path_of
from movedactors.words import is_number, is_word


def is_variable(thing):
    """Whether something, which may be anything, is a variable."""
    if not isinstance(thing, tuple):
        return is_word(thing)
    if not 1 <= len(thing) <= 4 or not is_word(thing[0]):
        return False
    return all([is_word(member) or is_number(member) for member in thing])


def wrong_part(primitives, thing):
    """The path of the first wrong part of something, which may be anything, or None if it is a term."""
    return first_wrong_part(primitives, thing, lambda part: is_plain_variable(part))


def wrong_part_over(primitives, known, thing):
    """The path of the first wrong part of something, where a variable that is none of the known ones is wrong, too."""
    return first_wrong_part(primitives, thing, lambda part: is_plain_variable(part) and part[1] in known)


def first_wrong_part(primitives, thing, is_right_variable):
    """The path of the first part that is neither made as due nor a variable that is right, or None."""
    counts = dict(primitives)
    todo = [(thing, None)]
    while todo:
        part, link = todo.pop()
        if is_made(counts, part):
            todo.extend([(part[2][k], (link, (k,))) for k in reversed(range(len(part[2])))])
        elif not is_right_variable(part):
            return path_of(link)
    return None


def is_plain_variable(part):
    """Whether something, which may be anything, is a pair ("var", v) with a variable v."""
    return isinstance(part, tuple) and len(part) == 2 and part[0] == "var" and is_variable(part[1])


def is_made(counts, part):
    """Whether something, which may be anything, is a tuple ("of", name, terms) that has as many members as due."""
    if not isinstance(part, tuple) or len(part) != 3 or part[0] != "of":
        return False
    if not isinstance(part[1], str) or part[1] not in counts:
        return False
    return isinstance(part[2], tuple) and len(part[2]) == counts[part[1]]


def parts(term):
    """The list of all parts of a term, in the order in which they are visited."""
    found = []
    todo = [term]
    while todo:
        part = todo.pop()
        found.append(part)
        if part[0] == "of":
            todo.extend(part[2][::-1])
    return found


def folded(term, of_variable, of_made):
    """What a term comes to: of_variable(part) for a variable, of_made(part, what its terms come to) otherwise.

    No function here calls itself, since terms may be nested deeper than calls may be.
    """
    done = []
    todo = [(term, False)]
    while todo:
        part, is_ready = todo.pop()
        if part[0] == "var":
            done.append(of_variable(part))
        elif is_ready:
            first = len(done) - len(part[2])
            members = tuple(done[first:])
            del done[first:]
            done.append(of_made(part, members))
        else:
            todo.append((part, True))
            todo.extend([(member, False) for member in reversed(part[2])])
    return done[0]


def size(term):
    """The number of the parts of a term."""
    return len(parts(term))


def depth(term):
    """The depth of a term."""
    return folded(
        term,
        lambda part: 0,
        lambda part, depths: 1 + max(depths, default=0),
    )


def variables(term):
    """The list of the variables of a term, each once, in the order in which they are visited first."""
    seen = {}
    for part in parts(term):
        if part[0] == "var":
            seen[part[1]] = True
    return list(seen)


def part_at(term, path):
    """The part with a path, or None if path, which may be anything, is not the tuple of the path of a part."""
    if not isinstance(path, tuple):
        return None
    for k in path:
        if term[0] == "var" or not is_number(k) or k >= len(term[2]):
            return None
        term = term[2][k]
    return term


def put_in(term, table):
    """The term that results when the terms of a table are put in for its variables, at once."""
    return folded(
        term,
        lambda part: table.get(part[1], part),
        lambda part, members: ("of", part[1], members),
    )
